import PyProof.Rows.All
import Wide.All
import OpenK.AllK
import Wide.FinOn
import Open.SpecLaws
import KE.OsGo
import HandS.ForSpec
import HandS.Comp
import HandS.Iter
import HandS.Conv
import HandS.Deep
import HandS.Style
import HandS.SetFor
import HandS.Walk
import HandS.Codes
import PySem.Challenge.RW_wishgiving_s01_answers
/-! Rings let go in any order: the outcome of exchanging round doesn't depend on which ring goes first. -/
namespace My

/-! ### lists -/
theorem len_le_of_sub : ∀ {l m : List Nat}, l.Nodup → (∀ x ∈ l, x ∈ m) → l.length ≤ m.length
  | [], _, _, _ => Nat.zero_le _
  | a :: l, m, h, s => by
    have ha : a ∈ m := s a (List.mem_cons_self ..)
    have hn := List.nodup_cons.mp h
    have ih : l.length ≤ (m.erase a).length := len_le_of_sub hn.2 (fun x hx => by
      have hne : x ≠ a := fun e => hn.1 (e ▸ hx)
      exact (List.mem_erase_of_ne hne).mpr (s x (List.mem_cons_of_mem _ hx)))
    have e := List.length_erase_of_mem ha
    have p : 0 < m.length := List.length_pos_of_mem ha
    rw [List.length_cons]
    omega

theorem filter_out_lt {l r : List Nat} {a : Nat} (h1 : a ∈ l) (h2 : a ∈ r) : (l.filter fun i => !r.contains i).length < l.length := by
  have : (l.filter fun i => !r.contains i).length ≤ l.length := List.length_filter_le ..
  rcases Nat.lt_or_ge (l.filter fun i => !r.contains i).length l.length with q | q
  · exact q
  · have e : (l.filter fun i => !r.contains i).length = l.length := by omega
    rw [List.length_filter_eq_length_iff] at e
    have := e a h1
    rw [List.contains_iff_mem.mpr h2] at this
    cases this

theorem mem_out {l r : List Nat} {i : Nat} : i ∈ (l.filter fun i => !r.contains i) ↔ i ∈ l ∧ i ∉ r := by
  rw [List.mem_filter]
  constructor
  · rintro ⟨a, b⟩
    refine ⟨a, fun q => ?_⟩
    rw [List.contains_iff_mem.mpr q] at b
    cases b
  · rintro ⟨a, b⟩
    refine ⟨a, ?_⟩
    cases e : r.contains i
    · rfl
    · exact absurd (List.contains_iff_mem.mp e) b

theorem out_out (l r s : List Nat) : ((l.filter fun i => !r.contains i).filter fun i => !s.contains i) = ((l.filter fun i => !s.contains i).filter fun i => !r.contains i) := by
  rw [List.filter_filter, List.filter_filter]
  congr 1
  funext i
  exact Bool.and_comm _ _

theorem lookup_append_none {α : Type} : ∀ {l m : List (Nat × α)} {i : Nat}, (∀ p ∈ l, p.1 ≠ i) → (l ++ m).lookup i = m.lookup i
  | [], _, _, _ => rfl
  | (a, b) :: l, m, i, h => by
    have h1 : a ≠ i := h (a, b) (List.mem_cons_self ..)
    have e : (i == a) = false := by
      rw [beq_eq_false_iff_ne]
      exact fun q => h1 q.symm
    show List.lookup i ((a, b) :: (l ++ m)) = _
    rw [List.lookup_cons, e]
    exact lookup_append_none fun p hp => h p (List.mem_cons_of_mem _ hp)

theorem lookup_map_self {g : Nat → Nat} : ∀ {l : List Nat} {m : List (Nat × Nat)} {i : Nat}, i ∈ l → (l.map (fun i => (i, g i)) ++ m).lookup i = some (g i)
  | [], _, _, h => absurd h (List.not_mem_nil)
  | a :: l, m, i, h => by
    show List.lookup i ((a, g a) :: (l.map (fun i => (i, g i)) ++ m)) = _
    rw [List.lookup_cons]
    cases e : (i == a)
    · have hne : i ≠ a := by
        rw [beq_eq_false_iff_ne] at e
        exact e
      have : i ∈ l := by
        rcases List.mem_cons.mp h with q | q
        · exact absurd q hne
        · exact q
      exact lookup_map_self this
    · have : i = a := beq_iff_eq.mp e
      rw [this]

/-! ### what one looks at, abstractly -/
/-- f: whom one looks at, among some -/
structure Looks (n : Nat) (f : List Nat → Nat → Nat) : Prop where
  mem : ∀ L, (∀ j ∈ L, j < n) → ∀ i ∈ L, f L i ∈ L
  mono : ∀ L L' i, (∀ j ∈ L, j < n) → (∀ j ∈ L', j ∈ L) → i ∈ L' → f L i ∈ L' → f L' i = f L i

def steps (g : Nat → Nat) : Nat → Nat → Nat
  | 0, i => i
  | k + 1, i => steps g k (g i)

theorem steps_add (g : Nat → Nat) : ∀ a b i, steps g (a + b) i = steps g b (steps g a i)
  | 0, b, i => by rw [Nat.zero_add]; rfl
  | a + 1, b, i => by
    have : a + 1 + b = (a + b) + 1 := by omega
    rw [this]
    exact steps_add g a b (g i)

theorem steps_succ (g : Nat → Nat) (a i : Nat) : steps g (a + 1) i = g (steps g a i) := steps_add g a 1 i

/-- a ring: closed, and from each to each -/
structure IsRing (f : List Nat → Nat → Nat) (L r : List Nat) : Prop where
  sub : ∀ i ∈ r, i ∈ L
  ne : ∃ i, i ∈ r
  closed : ∀ i ∈ r, f L i ∈ r
  reach : ∀ i ∈ r, ∀ j ∈ r, ∃ m, steps (f L) m i = j

theorem steps_in {g : Nat → Nat} {r : List Nat} (h : ∀ i ∈ r, g i ∈ r) : ∀ m i, i ∈ r → steps g m i ∈ r
  | 0, _, hi => hi
  | m + 1, i, hi => steps_in h m (g i) (h i hi)

/-- two rings that share somebody are one -/
theorem IsRing.same {f : List Nat → Nat → Nat} {L r s : List Nat} (hr : IsRing f L r) (hs : IsRing f L s) {x : Nat} (x1 : x ∈ r) (x2 : x ∈ s) : ∀ i, i ∈ r ↔ i ∈ s := by
  intro i
  constructor
  · intro hi
    obtain ⟨m, e⟩ := hr.reach x x1 i hi
    rw [← e]
    exact steps_in hs.closed m x x2
  · intro hi
    obtain ⟨m, e⟩ := hs.reach x x2 i hi
    rw [← e]
    exact steps_in hr.closed m x x1

theorem steps_congr {g g' : Nat → Nat} {r : List Nat} (h : ∀ i ∈ r, g i ∈ r) (e : ∀ i ∈ r, g' i = g i) : ∀ m i, i ∈ r → steps g' m i = steps g m i
  | 0, _, _ => rfl
  | m + 1, i, hi => by
    show steps g' m (g' i) = steps g m (g i)
    rw [e i hi]
    exact steps_congr h e m (g i) (h i hi)

/-- a ring stays one when others have gone -/
theorem IsRing.rest {n : Nat} {f : List Nat → Nat → Nat} (F : Looks n f) {L r L' : List Nat} (hL : ∀ j ∈ L, j < n) (hr : IsRing f L r) (h1 : ∀ j ∈ L', j ∈ L) (h2 : ∀ i ∈ r, i ∈ L') :
    IsRing f L' r ∧ ∀ i ∈ r, f L' i = f L i := by
  have e : ∀ i ∈ r, f L' i = f L i := fun i hi => F.mono L L' i hL h1 (h2 i hi) (h2 _ (hr.closed i hi))
  refine ⟨⟨h2, hr.ne, fun i hi => ?_, fun i hi j hj => ?_⟩, e⟩
  · rw [e i hi]
    exact hr.closed i hi
  · obtain ⟨m, q⟩ := hr.reach i hi j hj
    exact ⟨m, by rw [steps_congr hr.closed e m i hi]; exact q⟩

/-! ### a way to let rings go -/
/-- how rings go, one by one: from which people, with what each has -/
inductive Goes (f : List Nat → Nat → Nat) (t : Nat → Nat) : List Nat → (Nat → Option Nat) → Prop where
  | nil {v : Nat → Option Nat} : (∀ i, v i = none) → Goes f t [] v
  | cons {L r : List Nat} {u v : Nat → Option Nat} : IsRing f L r → Goes f t (L.filter fun i => !r.contains i) u →
      (∀ i ∈ r, v i = some (t (f L i))) → (∀ i, i ∉ r → v i = u i) → Goes f t L v

/-- **The order in which rings go makes nothing.** -/
theorem goes_out {n : Nat} {f : List Nat → Nat → Nat} (F : Looks n f) {t : Nat → Nat} : ∀ (m : Nat) (L : List Nat) (v : Nat → Option Nat), L.length ≤ m → (∀ j ∈ L, j < n) → Goes f t L v → ∀ r, IsRing f L r →
    (∀ i ∈ r, v i = some (t (f L i))) ∧ ∃ u, Goes f t (L.filter fun i => !r.contains i) u ∧ ∀ i, i ∉ r → v i = u i := by
  intro m
  induction m with
  | zero =>
    intro L v hl _ _ r hr
    obtain ⟨i, hi⟩ := hr.ne
    have := hr.sub i hi
    have : 0 < L.length := List.length_pos_of_mem this
    omega
  | succ m ih =>
    intro L v hl hL hv r hr
    cases hv with
    | nil _ =>
      obtain ⟨i, hi⟩ := hr.ne
      exact absurd (hr.sub i hi) (List.not_mem_nil)
    | @cons _ s u _ hs hu h1 h2 =>
      by_cases c : ∃ x, x ∈ r ∧ x ∈ s
      · obtain ⟨x, x1, x2⟩ := c
        have e := hr.same hs x1 x2
        have ef : (L.filter fun i => !r.contains i) = (L.filter fun i => !s.contains i) := by
          congr 1
          funext i
          congr 1
          rw [Bool.eq_iff_iff, List.contains_iff_mem, List.contains_iff_mem]
          exact e i
        refine ⟨fun i hi => h1 i ((e i).mp hi), u, ?_, fun i hi => h2 i (fun q => hi ((e i).mpr q))⟩
        rw [ef]
        exact hu
      · have dis : ∀ i, i ∈ r → i ∉ s := fun i a b => c ⟨i, a, b⟩
        have r1 := hr.rest F hL (L' := L.filter fun i => !s.contains i) (fun j hj => (mem_out.mp hj).1) (fun i hi => mem_out.mpr ⟨hr.sub i hi, dis i hi⟩)
        have s1 := hs.rest F hL (L' := L.filter fun i => !r.contains i) (fun j hj => (mem_out.mp hj).1) (fun i hi => mem_out.mpr ⟨hs.sub i hi, fun q => dis i q hi⟩)
        obtain ⟨z, hz⟩ := hs.ne
        have lt := filter_out_lt (hs.sub z hz) hz
        obtain ⟨g1, u', g2, g3⟩ := ih (L.filter fun i => !s.contains i) u (by omega) (fun j hj => hL j (mem_out.mp hj).1) hu r r1.1
        refine ⟨fun i hi => ?_, fun i => if i ∈ s then some (t (f L i)) else u' i, ?_, fun i hi => ?_⟩
        · rw [h2 i (dis i hi), g1 i hi, r1.2 i hi]
        · refine Goes.cons s1.1 (by rw [out_out]; exact g2) (fun i hi => ?_) (fun i hi => ?_)
          · rw [if_pos hi, s1.2 i hi]
          · rw [if_neg hi]
        · by_cases q : i ∈ s
          · show v i = if i ∈ s then some (t (f L i)) else u' i
            rw [if_pos q, h1 i q]
          · show v i = if i ∈ s then some (t (f L i)) else u' i
            rw [if_neg q, h2 i q, g3 i hi]

/-- **What comes of it is one.** -/
theorem goes_one {n : Nat} {f : List Nat → Nat → Nat} (F : Looks n f) {t : Nat → Nat} : ∀ (m : Nat) (L : List Nat) (v v' : Nat → Option Nat), L.length ≤ m → (∀ j ∈ L, j < n) → Goes f t L v → Goes f t L v' → ∀ i, v i = v' i := by
  intro m
  induction m with
  | zero =>
    intro L v v' hl hL hv hv' i
    have : L = [] := List.length_eq_zero_iff.mp (by omega)
    subst this
    have none_of : ∀ v, Goes f t [] v → v i = none := by
      intro v h
      cases h with
      | nil e => exact e i
      | cons hr _ _ _ =>
        obtain ⟨i, hi⟩ := hr.ne
        exact absurd (hr.sub i hi) (List.not_mem_nil)
    rw [none_of v hv, none_of v' hv']
  | succ m ih =>
    intro L v v' hl hL hv hv' i
    cases hv with
    | nil e =>
      cases hv' with
      | nil e' => rw [e, e']
      | cons hr _ _ _ =>
        obtain ⟨i, hi⟩ := hr.ne
        exact absurd (hr.sub i hi) (List.not_mem_nil)
    | @cons _ s u _ hs hu h1 h2 =>
      obtain ⟨g1, u', g2, g3⟩ := goes_out F (m + 1) L v' hl hL hv' s hs
      by_cases q : i ∈ s
      · rw [h1 i q, g1 i q]
      · obtain ⟨z, hz⟩ := hs.ne
        have lt := filter_out_lt (hs.sub z hz) hz
        rw [h2 i q, g3 i q]
        exact ih _ u u' (by omega) (fun j hj => hL j (mem_out.mp hj).1) hu g2 i
end My
namespace My
open Rc57

/-! ### each -/
theorem each_iff {n : Nat} {l : List Nat} : each n l = true ↔ l.length = n ∧ ∀ x, x < n → x ∈ l := by
  unfold each
  rw [Bool.and_eq_true, beq_iff_eq, List.all_eq_true]
  constructor
  · rintro ⟨a, b⟩
    exact ⟨a, fun x hx => List.contains_iff_mem.mp (b x (List.mem_range.mpr hx))⟩
  · rintro ⟨a, b⟩
    exact ⟨a, fun x hx => List.contains_iff_mem.mpr (b x (List.mem_range.mp hx))⟩

theorem nodup_of_len {l m : List Nat} (hm : m.Nodup) (hs : ∀ x ∈ m, x ∈ l) (hl : l.length ≤ m.length) : l.Nodup ∧ ∀ x ∈ l, x ∈ m := by
  induction l generalizing m with
  | nil => exact ⟨List.nodup_nil, fun _ h => absurd h List.not_mem_nil⟩
  | cons a l ih =>
    have hin : a ∈ m := by
      by_cases q : a ∈ m
      · exact q
      · have := len_le_of_sub (l := m) (m := l) hm (fun x hx => by
          rcases List.mem_cons.mp (hs x hx) with e | e
          · exact absurd (e ▸ hx) q
          · exact e)
        rw [List.length_cons] at hl
        omega
    have hne : (m.erase a).Nodup := hm.erase a
    have hlen : (m.erase a).length = m.length - 1 := List.length_erase_of_mem hin
    have hp : 0 < m.length := List.length_pos_of_mem hin
    have hsub : ∀ x ∈ m.erase a, x ∈ l := fun x hx => by
      have h1 := (hm.mem_erase_iff).mp hx
      rcases List.mem_cons.mp (hs x h1.2) with e | e
      · exact absurd e h1.1
      · exact e
    rw [List.length_cons] at hl
    obtain ⟨g1, g2⟩ := ih hne hsub (by omega)
    refine ⟨List.nodup_cons.mpr ⟨fun q => ?_, g1⟩, fun x hx => ?_⟩
    · exact ((hm.mem_erase_iff).mp (g2 a q)).1 rfl
    · rcases List.mem_cons.mp hx with e | e
      · exact e ▸ hin
      · exact List.mem_of_mem_erase (g2 x e)

/-- each, as one wants it -/
structure Each (n : Nat) (l : List Nat) : Prop where
  len : l.length = n
  all : ∀ x, x < n → x ∈ l
  nodup : l.Nodup
  lt : ∀ x ∈ l, x < n
theorem each_Each {n : Nat} {l : List Nat} (h : each n l = true) : Each n l := by
  obtain ⟨a, b⟩ := each_iff.mp h
  have := nodup_of_len (l := l) (m := List.range n) List.nodup_range (fun x hx => b x (List.mem_range.mp hx)) (by rw [List.length_range]; omega)
  exact ⟨a, b, this.1, fun x hx => List.mem_range.mp (this.2 x hx)⟩
theorem Each.each {n : Nat} {l : List Nat} (h : Each n l) : Rc57.each n l = true := each_iff.mpr ⟨h.len, h.all⟩
theorem each_of_nodup {n : Nat} {l : List Nat} (hn : l.Nodup) (hl : l.length = n) (hlt : ∀ x ∈ l, x < n) : Each n l := by
  have := nodup_of_len (l := List.range n) (m := l) hn (fun x hx => List.mem_range.mpr (hlt x hx)) (by rw [List.length_range]; omega)
  exact ⟨hl, fun x hx => this.2 x (List.mem_range.mpr hx), hn, hlt⟩

/-! ### who has a thing -/
theorem getD_of_lt {l : List Nat} {i : Nat} (h : i < l.length) : l.getD i 0 = l[i] := by
  rw [List.getD_eq_getElem?_getD, List.getElem?_eq_getElem h]; rfl
theorem getD_mem {l : List Nat} {i : Nat} (h : i < l.length) : l.getD i 0 ∈ l := by
  rw [getD_of_lt h]; exact List.getElem_mem h
theorem holder_lt {g : List Nat} {x : Nat} (h : x ∈ g) : holder g x < g.length := by
  unfold holder
  exact List.findIdx_lt_length_of_exists ⟨x, h, beq_self_eq_true x⟩
theorem holder_has {g : List Nat} {x : Nat} (h : x ∈ g) : g.getD (holder g x) 0 = x := by
  rw [getD_of_lt (holder_lt h)]
  have := List.findIdx_getElem (p := fun y => y == x) (xs := g) (w := holder_lt h)
  exact beq_iff_eq.mp this
theorem getD_inj {l : List Nat} (hn : l.Nodup) {i j : Nat} (hi : i < l.length) (hj : j < l.length) (e : l.getD i 0 = l.getD j 0) : i = j := by
  rw [getD_of_lt hi, getD_of_lt hj] at e
  exact (List.getElem_inj hn).mp e
theorem holder_own {g : List Nat} (hn : g.Nodup) {i : Nat} (h : i < g.length) : holder g (g.getD i 0) = i :=
  getD_inj hn (holder_lt (getD_mem h)) h (holder_has (getD_mem h))

/-! ### the dearest -/
theorem find_of_mem {p : Nat → Bool} : ∀ {l : List Nat} {x : Nat}, x ∈ l → p x = true → ∃ y, l.find? p = some y ∧ p y = true ∧ y ∈ l
  | [], _, h, _ => absurd h List.not_mem_nil
  | a :: l, x, h, hp => by
    cases e : p a
    · rcases List.mem_cons.mp h with q | q
      · rw [q, e] at hp; cases hp
      · obtain ⟨y, h1, h2, h3⟩ := find_of_mem q hp
        refine ⟨y, ?_, h2, List.mem_cons_of_mem _ h3⟩
        rw [List.find?_cons, e]
        exact h1
    · exact ⟨a, by rw [List.find?_cons, e], e, List.mem_cons_self ..⟩
theorem find_mono {p q : Nat → Bool} (h : ∀ x, q x = true → p x = true) : ∀ {l : List Nat} {y : Nat}, l.find? p = some y → q y = true → l.find? q = some y
  | [], _, e, _ => by cases e
  | a :: l, y, e, hq => by
    rw [List.find?_cons] at e ⊢
    cases c : p a
    · rw [c] at e
      have : q a = false := by
        cases d : q a
        · rfl
        · rw [h a d] at c; cases c
      rw [this]
      exact find_mono h e hq
    · rw [c] at e
      cases e
      rw [hq]

/-- wishes as they are told -/
def RightW (n : Nat) (w : Wishes) : Prop := w.length = n ∧ ∀ i, i < n → Each n (orderOf w i)
theorem right_RightW {n : Nat} {w : Wishes} (h : right n w = true) : RightW n w := by
  unfold right at h
  rw [Bool.and_eq_true, beq_iff_eq, List.all_eq_true] at h
  refine ⟨h.1, fun i hi => each_Each (h.2 _ ?_)⟩
  show w.getD i [] ∈ w
  have hl : i < w.length := by omega
  rw [List.getD_eq_getElem?_getD, List.getElem?_eq_getElem hl]
  exact List.getElem_mem hl

theorem dearest_find {n : Nat} {w : Wishes} (hw : RightW n w) {i : Nat} (hi : i < n) {l : List Nat} (hl : ∃ x ∈ l, x < n) :
    (orderOf w i).find? (fun x => l.contains x) = some (dearest w i l) ∧ dearest w i l ∈ l := by
  obtain ⟨x, h1, h2⟩ := hl
  obtain ⟨y, e, h3, _⟩ := find_of_mem (p := fun x => l.contains x) ((hw.2 i hi).all x h2) (List.contains_iff_mem.mpr h1)
  have : dearest w i l = y := by
    unfold dearest
    rw [e]; rfl
  rw [this]
  exact ⟨e, List.contains_iff_mem.mp h3⟩

theorem looks_Looks {n : Nat} {w : Wishes} {own : Gift} (hw : RightW n w) (ho : Each n own) : Looks n (looks w own) := by
  have own_mem : ∀ (L : List Nat), (∀ j ∈ L, j < n) → ∀ i ∈ L, ∃ x ∈ (L.map fun j => own.getD j 0), x < n := by
    intro L hL i hi
    exact ⟨own.getD i 0, List.mem_map.mpr ⟨i, hi, rfl⟩, ho.lt _ (getD_mem (by rw [ho.len]; exact hL i hi))⟩
  refine ⟨fun L hL i hi => ?_, fun L L' i hL hsub hi hin => ?_⟩
  · obtain ⟨_, hd⟩ := dearest_find hw (hL i hi) (own_mem L hL i hi)
    obtain ⟨j, hj, e⟩ := List.mem_map.mp hd
    unfold looks
    rw [← e, holder_own ho.nodup (by rw [ho.len]; exact hL j hj)]
    exact hj
  · have hiL := hsub i hi
    have hL' : ∀ j ∈ L', j < n := fun j hj => hL j (hsub j hj)
    obtain ⟨f1, d1⟩ := dearest_find hw (hL i hiL) (own_mem L hL i hiL)
    have d1' : dearest w i (L.map fun j => own.getD j 0) ∈ own := by
      obtain ⟨j, hj, e⟩ := List.mem_map.mp d1
      rw [← e]
      exact getD_mem (by rw [ho.len]; exact hL j hj)
    have d2 : dearest w i (L.map fun j => own.getD j 0) ∈ L'.map fun j => own.getD j 0 :=
      List.mem_map.mpr ⟨_, hin, holder_has d1'⟩
    have f2 := find_mono (p := fun x => (L.map fun j => own.getD j 0).contains x) (q := fun x => (L'.map fun j => own.getD j 0).contains x) (fun x hx => by
      obtain ⟨j, hj, e⟩ := List.mem_map.mp (List.contains_iff_mem.mp hx)
      exact List.contains_iff_mem.mpr (List.mem_map.mpr ⟨j, hsub j hj, e⟩)) f1 (List.contains_iff_mem.mpr d2)
    unfold looks
    have : dearest w i (L'.map fun j => own.getD j 0) = dearest w i (L.map fun j => own.getD j 0) := by
      conv => lhs; unfold dearest
      rw [f2]; rfl
    rw [this]

/-! ### the specification's rings go -/
theorem follow_steps (w : Wishes) (own : Gift) (l : List Nat) : ∀ k i, follow w own l k i = steps (looks w own l) k i
  | 0, _ => rfl
  | k + 1, i => follow_steps w own l k _

/-- Among one more steps than there are people two meet. -/
theorem meet {g : Nat → Nat} {L : List Nat} (hg : ∀ i ∈ L, g i ∈ L) {a : Nat} (ha : a ∈ L) : ∃ i j, i < j ∧ j ≤ L.length ∧ steps g i a = steps g j a := by
  refine Classical.byContradiction fun c => ?_
  have hn : ((List.range (L.length + 1)).map fun k => steps g k a).Nodup := by
    unfold List.Nodup
    rw [List.pairwise_map]
    refine List.Pairwise.imp_of_mem ?_ (List.pairwise_lt_range (n := L.length + 1))
    intro i j hi hj hlt e
    exact c ⟨i, j, hlt, by have := List.mem_range.mp hj; omega, e⟩
  have := len_le_of_sub hn (m := L) (fun x hx => by
    obtain ⟨k, _, e⟩ := List.mem_map.mp hx
    rw [← e]
    exact steps_in hg k a ha)
  rw [List.length_map, List.length_range] at this
  omega

theorem steps_comm (g : Nat → Nat) (a b i : Nat) : steps g a (steps g b i) = steps g b (steps g a i) := by
  rw [← steps_add, ← steps_add, Nat.add_comm]

/-- behind as many steps as there are people one is in a ring: one comes back, within as many -/
theorem comes_back {g : Nat → Nat} {L : List Nat} (hg : ∀ i ∈ L, g i ∈ L) {a : Nat} (ha : a ∈ L) : ∃ p, 0 < p ∧ p ≤ L.length ∧ steps g p (steps g L.length a) = steps g L.length a := by
  obtain ⟨i, j, h1, h2, e⟩ := meet hg ha
  refine ⟨j - i, by omega, by omega, ?_⟩
  have e1 : L.length = i + (L.length - i) := by omega
  have e2 : steps g L.length a = steps g (L.length - i) (steps g i a) := by
    rw [← steps_add]
    congr 1
  rw [e2, steps_comm, ← steps_add g i (j - i) a]
  have : i + (j - i) = j := by omega
  rw [this, ← e]

/-- the ring's members: the steps from s ahead of coming back -/
theorem ring_mem (w : Wishes) (own : Gift) (l : List Nat) (s : Nat) : ∀ (k i x : Nat), x ∈ ring w own l k s i → ∃ m, x = steps (looks w own l) m i
  | 0, i, x, h => absurd h List.not_mem_nil
  | k + 1, i, x, h => by
    unfold ring at h
    rcases List.mem_cons.mp h with e | h
    · exact ⟨0, e⟩
    · split at h
      · exact absurd h List.not_mem_nil
      · obtain ⟨m, e⟩ := ring_mem w own l s k _ x h
        exact ⟨m + 1, e⟩
theorem ring_has (w : Wishes) (own : Gift) (l : List Nat) (s : Nat) : ∀ (k i m : Nat), m < k → (∀ q, 0 < q → q ≤ m → steps (looks w own l) q i ≠ s) → steps (looks w own l) m i ∈ ring w own l k s i
  | 0, _, _, h, _ => absurd h (Nat.not_lt_zero _)
  | k + 1, i, 0, _, _ => by
    unfold ring
    exact List.mem_cons_self ..
  | k + 1, i, m + 1, h, hq => by
    unfold ring
    refine List.mem_cons_of_mem _ ?_
    rw [if_neg (show ¬ looks w own l i = s from hq 1 (by omega) (by omega))]
    exact ring_has w own l s k _ m (by omega) (fun q h1 h2 => hq (q + 1) (by omega) (by omega))

theorem least_of {P : Nat → Prop} : ∀ (k : Nat), P k → ∃ m, m ≤ k ∧ P m ∧ ∀ j, j < m → ¬ P j := by
  intro k
  induction k using Nat.strongRecOn with
  | ind k ih =>
    intro h
    by_cases c : ∃ j, j < k ∧ P j
    · obtain ⟨j, h1, h2⟩ := c
      obtain ⟨m, a, b, d⟩ := ih j h1 h2
      exact ⟨m, by omega, b, d⟩
    · exact ⟨k, Nat.le_refl _, h, fun j h1 h2 => c ⟨j, h1, h2⟩⟩

theorem steps_mod {g : Nat → Nat} {p s : Nat} (h : steps g p s = s) : ∀ c, steps g (p * c) s = s
  | 0 => rfl
  | c + 1 => by
    rw [Nat.mul_succ, steps_add, steps_mod h c, h]

theorem ring_IsRing {n : Nat} {w : Wishes} {own : Gift} (F : Looks n (looks w own)) {L : List Nat} (hL : ∀ j ∈ L, j < n) {a : Nat} (ha : a ∈ L) :
    IsRing (looks w own) L (ring w own L L.length (follow w own L L.length a) (follow w own L L.length a)) := by
  have hg := F.mem L hL
  rw [follow_steps]
  obtain ⟨p0, hp0, hle, e0⟩ := comes_back hg ha
  have hsL : steps (looks w own L) L.length a ∈ L := steps_in hg _ _ ha
  generalize steps (looks w own L) L.length a = s at e0 hsL
  obtain ⟨p, h1, ⟨h2, h3⟩, h4⟩ := least_of (P := fun p => 0 < p ∧ steps (looks w own L) p s = s) p0 ⟨hp0, e0⟩
  -- members are the steps below p
  have mem : ∀ x, x ∈ ring w own L L.length s s ↔ ∃ m, x = steps (looks w own L) m s := by
    intro x
    constructor
    · exact ring_mem w own L s L.length s x
    · rintro ⟨m, rfl⟩
      have e : steps (looks w own L) m s = steps (looks w own L) (m % p) s := by
        conv => lhs; rw [← Nat.div_add_mod m p]
        rw [steps_add, steps_mod h3]
      rw [e]
      have hm : m % p < p := Nat.mod_lt _ h2
      refine ring_has w own L s L.length s (m % p) (by omega) (fun q q1 q2 q3 => ?_)
      exact h4 q (by omega) ⟨q1, q3⟩
  refine ⟨fun i hi => ?_, ⟨s, (mem s).mpr ⟨0, rfl⟩⟩, fun i hi => ?_, fun i hi j hj => ?_⟩
  · obtain ⟨m, rfl⟩ := (mem i).mp hi
    exact steps_in hg _ _ hsL
  · obtain ⟨m, rfl⟩ := (mem i).mp hi
    exact (mem _).mpr ⟨m + 1, (steps_succ _ m s).symm⟩
  · obtain ⟨m, rfl⟩ := (mem i).mp hi
    obtain ⟨m', rfl⟩ := (mem j).mp hj
    -- go on to a multiple of p, then m' more
    refine ⟨p * m - m + m', ?_⟩
    rw [← steps_add]
    have : m ≤ p * m := Nat.le_mul_of_pos_left m h2
    have e : m + (p * m - m + m') = p * m + m' := by omega
    rw [e, steps_add, steps_mod h3]

theorem rings_goes {n : Nat} {w : Wishes} {own : Gift} (F : Looks n (looks w own)) : ∀ (k : Nat) (L : List Nat), L.length ≤ k → (∀ j ∈ L, j < n) →
    Goes (looks w own) (fun j => own.getD j 0) L (fun i => (rings w own k L).lookup i)
  | 0, L, hl, _ => by
    have : L = [] := List.length_eq_zero_iff.mp (by omega)
    subst this
    exact .nil fun _ => rfl
  | k + 1, [], _, _ => .nil fun _ => rfl
  | k + 1, a :: L, hl, hL => by
    have hr := ring_IsRing F hL (a := a) (List.mem_cons_self ..)
    have hlt : ((a :: L).filter fun i => !(ring w own (a :: L) (a :: L).length (follow w own (a :: L) (a :: L).length a) (follow w own (a :: L) (a :: L).length a)).contains i).length < (a :: L).length := by
      obtain ⟨z, hz⟩ := hr.ne
      exact filter_out_lt (hr.sub z hz) hz
    refine Goes.cons hr (rings_goes F k _ (by omega) (fun j hj => hL j (mem_out.mp hj).1)) (fun i hi => ?_) (fun i hi => ?_)
    · unfold rings
      exact lookup_map_self (g := fun i => own.getD (looks w own (a :: L) i) 0) hi
    · conv => lhs; unfold rings
      refine lookup_append_none fun p hp => ?_
      obtain ⟨j, hj, rfl⟩ := List.mem_map.mp hp
      exact fun e => hi (e ▸ hj)

/-- **What's exchanged round, by whatever way the rings go.** -/
theorem traded_of {n : Nat} {w : Wishes} {own : Gift} (hw : RightW n w) (ho : Each n own) {v : Nat → Option Nat} (h : Goes (looks w own) (fun j => own.getD j 0) (List.range n) v) :
    traded n w own = (List.range n).map fun i => (v i).getD 0 := by
  have F := looks_Looks hw ho
  have hL : ∀ j ∈ List.range n, j < n := fun j hj => List.mem_range.mp hj
  have g := rings_goes F n (List.range n) (by rw [List.length_range]; exact Nat.le_refl _) hL
  have e := goes_one F n (List.range n) _ _ (by rw [List.length_range]; exact Nat.le_refl _) hL g h
  unfold traded giftOf
  refine List.map_congr_left fun i _ => ?_
  rw [← e i]
end My
namespace My
open Rc57

/-! ### what's left, as a list of truth values -/
structure Mask (n : Nat) (left : List Bool) (l : List Nat) : Prop where
  len : left.length = n
  val : ∀ x, x < n → left.getD x false = l.contains x
theorem Mask.at {n : Nat} {left : List Bool} {l : List Nat} (h : Mask n left l) {x : Nat} (hx : x < n) : left[x]? = some (l.contains x) := by
  have hl : x < left.length := by rw [h.len]; exact hx
  have := h.val x hx
  rw [List.getD_eq_getElem?_getD, List.getElem?_eq_getElem hl] at this
  rw [List.getElem?_eq_getElem hl]
  exact congrArg some this

/-- the dearest of what's left: those of things that are left, the first -/
def leftOf (things : List Nat) (left : List Bool) : List Nat := things.filter fun x => left.getD x false
theorem find_filter (p : Nat → Bool) : ∀ l : List Nat, l.find? p = (l.filter p)[0]?
  | [] => rfl
  | a :: l => by
    rw [List.find?_cons, List.filter_cons]
    cases p a
    · exact find_filter p l
    · rfl
theorem leftOf_dearest {n : Nat} {w : Wishes} (hw : RightW n w) {i : Nat} (hi : i < n) {left : List Bool} {l : List Nat} (hm : Mask n left l) (hl : ∃ x ∈ l, x < n) :
    (leftOf (orderOf w i) left)[0]? = some (dearest w i l) ∧ dearest w i l ∈ l ∧ dearest w i l < n := by
  obtain ⟨e, hin⟩ := dearest_find hw hi hl
  have e2 : leftOf (orderOf w i) left = (orderOf w i).filter fun x => l.contains x := by
    unfold leftOf
    refine List.filter_congr fun x hx => hm.val x ((hw.2 i hi).lt x hx)
  rw [e2, ← find_filter, e]
  exact ⟨rfl, hin, (hw.2 i hi).lt _ (List.mem_of_find?_eq_some e)⟩

theorem getD_set_bool {l : List Bool} {x y : Nat} {b : Bool} (hx : x < l.length) : (l.set x b).getD y false = if y = x then b else l.getD y false := by
  rw [List.getD_eq_getElem?_getD, List.getD_eq_getElem?_getD, List.getElem?_set]
  by_cases c : x = y
  · subst c
    rw [if_pos rfl, if_pos rfl, if_pos hx]
    rfl
  · rw [if_neg c, if_neg (fun e => c e.symm)]
theorem getD_set_nat {l : List Nat} {x y b : Nat} (hx : x < l.length) : (l.set x b).getD y 0 = if y = x then b else l.getD y 0 := by
  rw [List.getD_eq_getElem?_getD, List.getD_eq_getElem?_getD, List.getElem?_set]
  by_cases c : x = y
  · subst c
    rw [if_pos rfl, if_pos rfl, if_pos hx]
    rfl
  · rw [if_neg c, if_neg (fun e => c e.symm)]

theorem Mask.all (n : Nat) : Mask n (List.replicate n true) (List.range n) := by
  refine ⟨List.length_replicate, fun x hx => ?_⟩
  rw [List.getD_eq_getElem?_getD, List.getElem?_replicate, if_pos hx]
  exact (List.contains_iff_mem.mpr (List.mem_range.mpr hx)).symm

/-! ### in turn -/
structure TurnInv (n : Nat) (w : Wishes) (order : List Nat) (k : Nat) (left : List Bool) (given : List Nat) : Prop where
  ex : ∃ (done : List (Nat × Nat)) (l : List Nat), taken w order (List.range n) = done ++ taken w (order.drop k) l ∧ l.Nodup ∧ (∀ x ∈ l, x < n) ∧ l.length + k = n ∧ Mask n left l ∧
    (∀ p ∈ done, p.1 ∈ order.take k) ∧ ∀ i, i < n → given.getD i 0 = (done.lookup i).getD 0
  len : given.length = n
theorem TurnInv.start {n : Nat} {w : Wishes} {order : List Nat} : TurnInv n w order 0 (List.replicate n true) (List.replicate n 0) := by
  refine ⟨⟨[], List.range n, rfl, List.nodup_range, fun x hx => List.mem_range.mp hx, List.length_range, Mask.all n, (fun p hp => absurd hp List.not_mem_nil), fun i hi => ?_⟩, List.length_replicate⟩
  rw [List.getD_eq_getElem?_getD, List.getElem?_replicate, if_pos hi]
  rfl
theorem take_more {α : Type} : ∀ {l : List α} {i : Nat} {x : α}, l[i]? = some x → l.take (i + 1) = l.take i ++ [x]
  | [], i, x, h => by simp at h
  | a :: l, 0, x, h => by
    have e : a = x := Option.some.inj h
    subst e
    rfl
  | a :: l, i + 1, x, h => by
    have ih := take_more (l := l) (i := i) (x := x) h
    show a :: l.take (i + 1) = a :: l.take i ++ [x]
    rw [ih]
    rfl
theorem drop_at {α : Type} : ∀ {l : List α} {i : Nat} {x : α}, l[i]? = some x → l.drop i = x :: l.drop (i + 1)
  | [], i, x, h => by simp at h
  | a :: l, 0, x, h => by
    have e : a = x := Option.some.inj h
    subst e
    rfl
  | a :: l, i + 1, x, h => drop_at (l := l) (i := i) (x := x) h
theorem nodup_take_not {l : List Nat} (h : l.Nodup) {i x : Nat} (e : l[i]? = some x) : x ∉ l.take i := by
  have h2 : (l.take (i + 1)).Nodup := h.sublist (List.take_sublist _ _)
  rw [take_more e] at h2
  have := List.nodup_append.mp h2
  intro q
  exact this.2.2 x q x (List.mem_singleton.mpr rfl) rfl

theorem lookup_append_ne {done : List (Nat × Nat)} {p x i : Nat} (h : i ≠ p) : (done ++ [(p, x)]).lookup i = done.lookup i := by
  induction done with
  | nil =>
    have e : (i == p) = false := by rw [beq_eq_false_iff_ne]; exact h
    show List.lookup i [(p, x)] = _
    rw [List.lookup_cons, e]
  | cons a d ih =>
    obtain ⟨a, b⟩ := a
    show List.lookup i ((a, b) :: (d ++ [(p, x)])) = _
    rw [List.lookup_cons, List.lookup_cons]
    cases (i == a)
    · exact ih
    · rfl
theorem lookup_none {done : List (Nat × Nat)} {i : Nat} (h : ∀ p ∈ done, p.1 ≠ i) : done.lookup i = none := by
  have := lookup_append_none (m := []) h
  rw [List.append_nil] at this
  exact this

theorem TurnInv.dear {n : Nat} {w : Wishes} {order : List Nat} {k : Nat} {left : List Bool} {given : List Nat} (hw : RightW n w) (ho : Each n order) (h : TurnInv n w order k left given) {p : Nat} (hp : order[k]? = some p) :
    p < n ∧ ∃ x, (leftOf (orderOf w p) left)[0]? = some x ∧ x < n ∧ TurnInv n w order (k + 1) (left.set x false) (given.set p x) := by
  obtain ⟨⟨done, l, e, hn, hlt, hlen, hm, hd, hg⟩, hl⟩ := h
  have hpn : p < n := ho.lt p (List.mem_of_getElem? hp)
  have hk : k < n := by
    have := (List.getElem?_eq_some_iff.mp hp).1
    rw [ho.len] at this
    exact this
  have hne : ∃ x ∈ l, x < n := by
    cases l with
    | nil => rw [List.length_nil] at hlen; omega
    | cons a l => exact ⟨a, List.mem_cons_self .., hlt a (List.mem_cons_self ..)⟩
  obtain ⟨e1, e2, e3⟩ := leftOf_dearest hw hpn hm hne
  have hpt : ∀ q ∈ done, q.1 ≠ p := fun q hq c => nodup_take_not ho.nodup hp (c ▸ hd q hq)
  refine ⟨hpn, dearest w p l, e1, e3, ⟨done ++ [(p, dearest w p l)], l.filter fun y => y != dearest w p l, ?_, hn.sublist List.filter_sublist, fun x hx => hlt x (List.mem_filter.mp hx).1, ?_, ⟨?_, fun x hx => ?_⟩, fun q hq => ?_, fun i hi => ?_⟩, ?_⟩
  · rw [e, drop_at hp, List.append_assoc]
    rfl
  · have : (l.filter fun y => y != dearest w p l).length = l.length - 1 := by
      have e4 : (l.filter fun y => y != dearest w p l) = l.erase (dearest w p l) := (hn.erase_eq_filter _).symm
      rw [e4, List.length_erase_of_mem e2]
    have := List.length_pos_of_mem e2
    omega
  · rw [List.length_set]; exact hm.len
  · rw [getD_set_bool (by rw [hm.len]; exact e3), hm.val x hx, Bool.eq_iff_iff]
    rw [List.contains_iff_mem, List.mem_filter]
    by_cases c : x = dearest w p l
    · rw [if_pos c]
      constructor
      · intro q; cases q
      · rintro ⟨_, q⟩
        rw [bne_iff_ne] at q
        exact absurd c q
    · rw [if_neg c, List.contains_iff_mem]
      exact ⟨fun q => ⟨q, bne_iff_ne.mpr c⟩, fun q => q.1⟩
  · rw [take_more hp]
    rcases List.mem_append.mp hq with q | q
    · exact List.mem_append_left _ (hd _ q)
    · rw [List.mem_singleton.mp q]
      exact List.mem_append_right _ (List.mem_singleton.mpr rfl)
  · rw [getD_set_nat (by rw [hl]; exact hpn)]
    by_cases c : i = p
    · subst c
      rw [if_pos rfl, lookup_append_none hpt]
      show _ = (List.lookup i [(i, dearest w i l)]).getD 0
      rw [List.lookup_cons, beq_self_eq_true]
      rfl
    · rw [if_neg c, hg i hi, lookup_append_ne c]
  · rw [List.length_set]; exact hl

theorem ext_getD {l m : List Nat} (h : l.length = m.length) (e : ∀ i, i < l.length → l.getD i 0 = m.getD i 0) : l = m := by
  refine List.ext_getElem h fun i h1 h2 => ?_
  have := e i h1
  rw [getD_of_lt h1, getD_of_lt h2] at this
  exact this
theorem getD_map_range {n : Nat} {f : Nat → Nat} {i : Nat} (h : i < n) : ((List.range n).map f).getD i 0 = f i := by
  rw [List.getD_eq_getElem?_getD, List.getElem?_map, List.getElem?_range h]
  rfl
theorem TurnInv.finish {n : Nat} {w : Wishes} {order : List Nat} {left : List Bool} {given : List Nat} (ho : Each n order) (h : TurnInv n w order n left given) : given = turns n w order := by
  obtain ⟨⟨done, l, e, hn, hlt, hlen, hm, hd, hg⟩, hl⟩ := h
  have ed : taken w order (List.range n) = done := by
    rw [e, List.drop_eq_nil_of_le (by rw [ho.len]; exact Nat.le_refl _)]
    exact List.append_nil _
  unfold turns giftOf
  refine ext_getD (by rw [hl, List.length_map, List.length_range]) fun i hi => ?_
  rw [hl] at hi
  rw [getD_map_range hi, ed]
  exact hg i hi

/-! ### owners -/
structure OwnInv (own : List Nat) (k : Nat) (owners : List Nat) : Prop where
  len : owners.length = own.length
  val : ∀ j, j < k → j < own.length → owners.getD (own.getD j 0) 0 = j
theorem OwnInv.start (own : List Nat) : OwnInv own 0 (List.replicate own.length 0) := ⟨List.length_replicate, fun _ h => absurd h (Nat.not_lt_zero _)⟩
theorem OwnInv.turn {n : Nat} {own owners : List Nat} {k x : Nat} (ho : Each n own) (h : OwnInv own k owners) (hx : own[k]? = some x) : x < owners.length ∧ OwnInv own (k + 1) (owners.set x k) := by
  have hxn : x < n := ho.lt x (List.mem_of_getElem? hx)
  have hxl : x < owners.length := by rw [h.len, ho.len]; exact hxn
  have hk : k < own.length := (List.getElem?_eq_some_iff.mp hx).1
  have ex : own.getD k 0 = x := by rw [List.getD_eq_getElem?_getD, hx]; rfl
  refine ⟨hxl, by rw [List.length_set]; exact h.len, fun j h1 h2 => ?_⟩
  rw [getD_set_nat hxl]
  by_cases c : j = k
  · rw [c, ex, if_pos rfl]
  · rw [if_neg (fun q => c (getD_inj ho.nodup h2 hk (q.trans ex.symm)))]
    exact h.val j (by omega) h2
theorem OwnInv.owner {n : Nat} {own owners : List Nat} (ho : Each n own) (h : OwnInv own n owners) {x : Nat} (hx : x < n) : owners.getD x 0 = holder own x := by
  have hin := ho.all x hx
  have h1 := holder_lt hin
  have := h.val (holder own x) (by rw [ho.len] at h1; exact h1) h1
  rw [holder_has hin] at this
  exact this

/-! ### exchanged round -/
/-- who is there, by whose things are left -/
def there (n : Nat) (own : List Nat) (left : List Bool) : List Nat := (List.range n).filter fun i => left.getD (own.getD i 0) false
theorem mem_there {n : Nat} {own : List Nat} {left : List Bool} {i : Nat} : i ∈ there n own left ↔ i < n ∧ left.getD (own.getD i 0) false = true := by
  unfold there
  rw [List.mem_filter, List.mem_range]
theorem there_mask {n : Nat} {own : List Nat} {left : List Bool} (ho : Each n own) (hl : left.length = n) : Mask n left ((there n own left).map fun j => own.getD j 0) := by
  refine ⟨hl, fun x hx => ?_⟩
  rw [Bool.eq_iff_iff, List.contains_iff_mem, List.mem_map]
  have hin := ho.all x hx
  have h1 := holder_lt hin
  rw [ho.len] at h1
  constructor
  · intro q
    exact ⟨holder own x, mem_there.mpr ⟨h1, by rw [holder_has hin]; exact q⟩, holder_has hin⟩
  · rintro ⟨j, hj, rfl⟩
    exact (mem_there.mp hj).2
/-- who is looked at, as the program finds it -/
theorem looks_at {n : Nat} {w : Wishes} {own owners : List Nat} {left : List Bool} (hw : RightW n w) (ho : Each n own) (hl : left.length = n) (hs : OwnInv own n owners) {i : Nat} (hi : i ∈ there n own left) :
    ∃ x, (leftOf (orderOf w i) left)[0]? = some x ∧ x < n ∧ owners.getD x 0 = looks w own (there n own left) i ∧ own.getD (looks w own (there n own left) i) 0 = x := by
  have hin := (mem_there.mp hi).1
  have hx : own.getD i 0 < n := ho.lt _ (getD_mem (by rw [ho.len]; exact hin))
  obtain ⟨e1, e2, e3⟩ := leftOf_dearest hw hin (there_mask ho hl) ⟨own.getD i 0, List.mem_map.mpr ⟨i, hi, rfl⟩, hx⟩
  refine ⟨_, e1, e3, hs.owner ho e3, ?_⟩
  unfold looks
  exact holder_has (ho.all _ e3)

structure TradeInv (n : Nat) (w : Wishes) (own : List Nat) (left : List Bool) (given : List Nat) : Prop where
  llen : left.length = n
  glen : given.length = n
  goes : ∀ u, Goes (looks w own) (fun j => own.getD j 0) (there n own left) u → ∃ v, Goes (looks w own) (fun j => own.getD j 0) (List.range n) v ∧ (∀ i, i ∈ there n own left → v i = u i) ∧
    ∀ i, i < n → i ∉ there n own left → v i = some (given.getD i 0)
theorem TradeInv.start {n : Nat} {w : Wishes} {own : List Nat} (ho : Each n own) : TradeInv n w own (List.replicate n true) (List.replicate n 0) := by
  have e : there n own (List.replicate n true) = List.range n := by
    unfold there
    rw [List.filter_eq_self]
    intro i hi
    have : own.getD i 0 < n := ho.lt _ (getD_mem (by rw [ho.len]; exact List.mem_range.mp hi))
    rw [List.getD_eq_getElem?_getD, List.getElem?_replicate, if_pos this]
    rfl
  refine ⟨List.length_replicate, List.length_replicate, fun u hu => ⟨u, e ▸ hu, fun _ _ => rfl, fun i hi hn => ?_⟩⟩
  rw [e] at hn
  exact absurd (List.mem_range.mpr hi) hn
/-- a ring's people have what they look at, and their things go -/
theorem TradeInv.turn {n : Nat} {w : Wishes} {own r given given' : List Nat} {left left' : List Bool} (ho : Each n own) (h : TradeInv n w own left given) (hr : IsRing (looks w own) (there n own left) r)
    (hg : given'.length = n) (g1 : ∀ i ∈ r, given'.getD i 0 = own.getD (looks w own (there n own left) i) 0) (g2 : ∀ i, i < n → i ∉ r → given'.getD i 0 = given.getD i 0)
    (hl : left'.length = n) (l1 : ∀ x, x < n → left'.getD x false = (left.getD x false && !(r.map fun j => own.getD j 0).contains x)) :
    TradeInv n w own left' given' ∧ (there n own left').length < (there n own left).length := by
  have hrn : ∀ i ∈ r, i < n := fun i hi => (mem_there.mp (hr.sub i hi)).1
  have e : there n own left' = (there n own left).filter fun i => !r.contains i := by
    unfold there
    rw [List.filter_filter]
    refine List.filter_congr fun i hi => ?_
    have hin := List.mem_range.mp hi
    rw [l1 _ (ho.lt _ (getD_mem (by rw [ho.len]; exact hin))), Bool.and_comm]
    congr 2
    rw [Bool.eq_iff_iff, List.contains_iff_mem, List.contains_iff_mem, List.mem_map]
    constructor
    · rintro ⟨j, hj, q⟩
      rw [← getD_inj ho.nodup (by rw [ho.len]; exact hrn j hj) (by rw [ho.len]; exact hin) q]
      exact hj
    · intro q
      exact ⟨i, q, rfl⟩
  obtain ⟨z, hz⟩ := hr.ne
  refine ⟨⟨hl, hg, fun u hu => ?_⟩, by rw [e]; exact filter_out_lt (hr.sub z hz) hz⟩
  rw [e] at hu
  obtain ⟨v, v1, v2, v3⟩ := h.goes (fun i => if i ∈ r then some (own.getD (looks w own (there n own left) i) 0) else u i) (Goes.cons hr hu (fun i hi => by rw [if_pos hi]) (fun i hi => by rw [if_neg hi]))
  refine ⟨v, v1, fun i hi => ?_, fun i hi hn => ?_⟩
  · rw [e] at hi
    obtain ⟨a, b⟩ := mem_out.mp hi
    rw [v2 i a, if_neg b]
  · by_cases c : i ∈ r
    · rw [v2 i (hr.sub i c), if_pos c, g1 i c]
    · rw [v3 i hi (fun q => hn (by rw [e]; exact mem_out.mpr ⟨q, c⟩)), g2 i hi c]
theorem TradeInv.finish {n : Nat} {w : Wishes} {own given : List Nat} {left : List Bool} (hw : RightW n w) (ho : Each n own) (h : TradeInv n w own left given) (hl : ∀ x ∈ left, x = false) : given = traded n w own := by
  have e : there n own left = [] := by
    rw [List.eq_nil_iff_forall_not_mem]
    intro i hi
    have q := (mem_there.mp hi).2
    rw [List.getD_eq_getElem?_getD] at q
    cases c : left[own.getD i 0]? with
    | none => rw [c] at q; cases q
    | some b =>
      rw [c] at q
      have := hl b (List.mem_of_getElem? c)
      rw [this] at q
      cases q
  obtain ⟨v, v1, _, v3⟩ := h.goes (fun _ => none) (e ▸ .nil fun _ => rfl)
  rw [traded_of hw ho v1]
  refine ext_getD (by rw [h.glen, List.length_map, List.length_range]) fun i hi => ?_
  rw [h.glen] at hi
  rw [getD_map_range hi, v3 i hi (by rw [e]; exact List.not_mem_nil)]
  rfl

/-! ### a ring, as the program walks -/
def trail (g : Nat → Nat) (s k : Nat) : List Nat := (List.range k).map fun m => steps g m s
theorem trail_succ (g : Nat → Nat) (s k : Nat) : trail g s (k + 1) = trail g s k ++ [steps g k s] := by
  unfold trail
  rw [List.range_succ, List.map_append]
  rfl
theorem trail_len (g : Nat → Nat) (s k : Nat) : (trail g s k).length = k := by
  unfold trail
  rw [List.length_map, List.length_range]
theorem trail_get {g : Nat → Nat} {s k m : Nat} (h : m < k) : (trail g s k)[m]? = some (steps g m s) := by
  unfold trail
  rw [List.getElem?_map, List.getElem?_range h]
  rfl
theorem trail_ring {f : List Nat → Nat → Nat} {L : List Nat} {s j k : Nat} (hg : ∀ i ∈ L, f L i ∈ L) (hs : s ∈ L) (hj : j < k) (e : steps (f L) j s = steps (f L) k s) : IsRing f L ((trail (f L) s k).drop j) := by
  have mem : ∀ x, x ∈ (trail (f L) s k).drop j ↔ ∃ m, j ≤ m ∧ m < k ∧ x = steps (f L) m s := by
    intro x
    rw [List.mem_iff_getElem?]
    constructor
    · rintro ⟨i, hi⟩
      rw [List.getElem?_drop] at hi
      have hlt : j + i < k := by
        have := (List.getElem?_eq_some_iff.mp hi).1
        rw [trail_len] at this
        exact this
      rw [trail_get hlt] at hi
      exact ⟨j + i, by omega, hlt, (Option.some.inj hi).symm⟩
    · rintro ⟨m, h1, h2, rfl⟩
      refine ⟨m - j, ?_⟩
      rw [List.getElem?_drop, show j + (m - j) = m by omega, trail_get h2]
  have per : steps (f L) (k - j) (steps (f L) j s) = steps (f L) j s := by
    rw [← steps_add, show j + (k - j) = k by omega, ← e]
  -- any number of steps from j on is one of the ring
  have far : ∀ d, ∃ m, j ≤ m ∧ m < k ∧ steps (f L) d (steps (f L) j s) = steps (f L) m s := by
    intro d
    refine ⟨j + d % (k - j), by omega, by have := Nat.mod_lt d (show 0 < k - j by omega); omega, ?_⟩
    conv => lhs; rw [← Nat.div_add_mod d (k - j)]
    rw [steps_add, steps_mod per, ← steps_add]
  refine ⟨fun i hi => ?_, ⟨steps (f L) j s, (mem _).mpr ⟨j, Nat.le_refl _, hj, rfl⟩⟩, fun i hi => ?_, fun i hi i' hi' => ?_⟩
  · obtain ⟨m, _, _, rfl⟩ := (mem i).mp hi
    exact steps_in hg m s hs
  · obtain ⟨m, h1, h2, rfl⟩ := (mem i).mp hi
    rw [← steps_succ (f L) m s, show m + 1 = j + (m + 1 - j) by omega, steps_add]
    exact (mem _).mpr (far _)
  · obtain ⟨m, h1, h2, rfl⟩ := (mem i).mp hi
    obtain ⟨m', h1', h2', rfl⟩ := (mem i').mp hi'
    refine ⟨k - m + (m' - j), ?_⟩
    rw [← steps_add, show m + (k - m + (m' - j)) = k + (m' - j) by omega, steps_add, ← e, ← steps_add, show j + (m' - j) = m' by omega]
theorem trail_nodup_le {g : Nat → Nat} {L : List Nat} {s k : Nat} (hg : ∀ i ∈ L, g i ∈ L) (hs : s ∈ L) (h : (trail g s k).Nodup) : k ≤ L.length := by
  have := len_le_of_sub h (m := L) (fun x hx => by
    obtain ⟨m, _, rfl⟩ := List.mem_map.mp hx
    exact steps_in hg m s hs)
  rw [trail_len] at this
  exact this
theorem trail_nodup_succ {g : Nat → Nat} {s k : Nat} (h : (trail g s k).Nodup) (hn : steps g k s ∉ trail g s k) : (trail g s (k + 1)).Nodup := by
  rw [trail_succ]
  refine List.nodup_append.mpr ⟨h, List.pairwise_singleton _ _, fun a ha b hb q => ?_⟩
  rw [List.mem_singleton.mp hb] at q
  exact hn (q ▸ ha)
end My
namespace My
/-! ### calls taken apart -/
abbrev RCall := List (List Int)
def pNum (c : RCall) : Int := (c.headD []).headD 0
def pVal (c : RCall) : Int := ((c.headD []).drop 1).headD 0
def pRow (c : RCall) : List Int := (c.drop 1).headD []
def HV : List Bool := [false, true, true, true, true, false, true, false, true]
def HR : List Bool := [false, false, true, true, true, true, true, true, false]
theorem shape_cases {p : Int} {n k : Nat} (h : PyRc57.shape p = some (n, k)) : ∃ j : Nat, p = (j : Int) ∧ HV[j]? = some (decide (n = 1)) ∧ HR[j]? = some (decide (k = 1)) ∧ n ≤ 1 ∧ k ≤ 1 := by
  unfold PyRc57.shape at h
  repeat' split at h
  all_goals first
    | (cases h; rename_i e; exact ⟨p.toNat, by omega, by subst e; rfl, by subst e; rfl, by decide, by decide⟩)
    | cases h

structure Apart (ns : List Int) (cs : List RCall) (i : Nat) (done : List RCall) : Prop where
  le : i ≤ ns.length
  most : done.length ≤ i
  ex : ∃ f rest, PyFlat.calls PyRc57.shape f (ns.drop i) = some rest ∧ cs = done ++ rest
theorem Apart.start {ns : List Int} {cs : List RCall} (h : PyFlat.calls PyRc57.shape ns.length ns = some cs) : Apart ns cs 0 [] := ⟨Nat.zero_le _, Nat.le_refl _, ns.length, cs, h, rfl⟩
theorem Apart.finish {ns : List Int} {cs done : List RCall} {i : Nat} (h : Apart ns cs i done) (hi : ns.length ≤ i) : cs = done := by
  obtain ⟨f, rest, e, rfl⟩ := h.ex
  rw [List.drop_eq_nil_of_le hi] at e
  cases f <;> (cases e; exact List.append_nil _)
theorem drop_cons {α : Type} {l : List α} {i : Nat} {x : α} {r : List α} (h : l.drop i = x :: r) : l[i]? = some x ∧ l.drop (i + 1) = r ∧ i < l.length := by
  have e : l[i]? = some x := by
    have := List.getElem?_drop (xs := l) (i := i) (j := 0)
    rw [h] at this
    rw [Nat.add_zero] at this
    exact this.symm
  refine ⟨e, ?_, (List.getElem?_eq_some_iff.mp e).1⟩
  rw [← List.drop_drop, h]
  rfl
/-- one call, as it's read -/
theorem Apart.turn {ns : List Int} {cs done : List RCall} {i : Nat} (h : Apart ns cs i done) (hi : i < ns.length) : ∃ (j n k : Nat) (v : Int) (row : List Int) (c : RCall) (i' : Nat),
    ns[i]? = some (j : Int) ∧ HV[j]? = some (decide (n = 1)) ∧ HR[j]? = some (decide (k = 1)) ∧ n ≤ 1 ∧ k ≤ 1 ∧ pNum c = (j : Int) ∧ pVal c = v ∧ pRow c = row ∧
    (n = 0 → v = 0) ∧ (n = 1 → ns[i + 1]? = some v) ∧ (k = 0 → row = [] ∧ i' = i + 1 + n) ∧
    (k = 1 → ∃ m : Nat, ns[i + 1 + n]? = some (m : Int) ∧ row = (ns.drop (i + 1 + n + 1)).take m ∧ i' = i + 1 + n + 1 + m ∧ i + 1 + n + 1 + m ≤ ns.length) ∧ Apart ns cs i' (done ++ [c]) := by
  obtain ⟨f, rest, e, rfl⟩ := h.ex
  obtain ⟨p, r, er⟩ : ∃ p r, ns.drop i = p :: r := by
    have : (ns.drop i) ≠ [] := fun q => by
      have := congrArg List.length q
      rw [List.length_drop, List.length_nil] at this
      omega
    cases q : ns.drop i with
    | nil => exact absurd q this
    | cons p r => exact ⟨p, r, rfl⟩
  obtain ⟨e1, e2, _⟩ := drop_cons er
  rw [er] at e
  cases f with
  | zero => cases e
  | succ f =>
    unfold PyFlat.calls at e
    split at e
    · cases e
    · rename_i c t hc
      split at e
      · cases e
      · rename_i cs' hcs
        cases e
        simp only [PyFlat.call] at hc
        split at hc
        · cases hc
        · rename_i n k hsh
          obtain ⟨j, rfl, g1, g2, g3, g4⟩ := shape_cases hsh
          split at hc
          · cases hc
          · rename_i hlen
            split at hc
            · cases hc
            · rename_i xs t' hrows
              cases hc
              have hrl : r.length = ns.length - (i + 1) := by rw [← e2, List.length_drop]
              have hdr : ns.drop (i + 1 + n) = r.drop n := by rw [← e2, List.drop_drop]
              -- the number behind
              have hv : (n = 0 → (r.take n).headD 0 = 0) ∧ (n = 1 → ns[i + 1]? = some ((r.take n).headD 0)) := by
                refine ⟨fun q => by rw [q]; rfl, fun q => ?_⟩
                subst q
                cases r with
                | nil => simp at hlen
                | cons x r => exact (drop_cons e2).1
              cases k with
              | zero =>
                cases hrows
                refine ⟨j, n, 0, (r.take n).headD 0, [], [((j : Int) :: r.take n)], i + 1 + n, e1, g1, g2, g3, g4, rfl, rfl, rfl, hv.1, hv.2, fun _ => ⟨rfl, rfl⟩, fun q => (by cases q), ?_, ?_, ?_⟩
                · omega
                · rw [List.length_append]
                  have := h.most
                  show done.length + 1 ≤ _
                  omega
                · exact ⟨f, cs', by rw [hdr]; exact hcs, by rw [List.append_assoc]; rfl⟩
              | succ k =>
                have hk : k = 0 := by omega
                subst hk
                unfold PyFlat.rows at hrows
                split at hrows
                · cases hrows
                · rename_i x s hrow
                  cases hrows
                  have hrow' := hrow
                  cases er2 : r.drop n with
                  | nil => rw [er2] at hrow'; cases hrow'
                  | cons m r2 =>
                    rw [er2] at hrow'
                    simp only [PyFlat.row] at hrow'
                    split at hrow'
                    · rename_i hm
                      cases hrow'
                      obtain ⟨d1, d2, d3⟩ := drop_cons (hdr.trans er2)
                      have hr2 : r2.length = ns.length - (i + 1 + n + 1) := by rw [← d2, List.length_drop]
                      refine ⟨j, n, 1, (r.take n).headD 0, r2.take m.toNat, [((j : Int) :: r.take n), r2.take m.toNat], i + 1 + n + 1 + m.toNat, e1, g1, g2, g3, g4, rfl, rfl, rfl, hv.1, hv.2, fun q => (by cases q), fun _ => ⟨m.toNat, ?_, ?_, rfl, ?_⟩, ?_, ?_, ?_⟩
                      · rw [d1, Int.toNat_of_nonneg hm.1]
                      · rw [d2]
                      · omega
                      · omega
                      · rw [List.length_append]
                        have := h.most
                        show done.length + 1 ≤ _
                        omega
                      · refine ⟨f, cs', ?_, by rw [List.append_assoc]; rfl⟩
                        rw [← List.drop_drop, d2]
                        exact hcs
                    · cases hrow'
end My
namespace My
open Rc57 (Abs)
/-! ### the calls as they may be handed in -/
structure RowOk (m : Nat) (b : List Int) : Prop where
  few : b.length ≤ m
  pos : ∀ x ∈ b, 0 ≤ x
inductive Good : RCall → Prop where
  | begin : Good [[0]]
  | people {a : Int} : (a ≤ 5 ∨ 16 < a) → Good [[1, a]]
  | wish {a : Int} {b : List Int} : RowOk 16 b → Good [[2, a], b]
  | trade {a : Int} {b : List Int} : RowOk 16 b → Good [[3, a], b]
  | turns {a : Int} {b : List Int} : RowOk 16 b → Good [[4, a], b]
  | good {b : List Int} : RowOk 16 b → Good [[5], b]
  | order {a : Int} {b : List Int} : RowOk 16 b → Good [[6, a], b]
  | group {b : List Int} : RowOk 32 b → Good [[7], b]
  | eat {a : Int} : Good [[8, a]]
theorem rows_len : ∀ (k : Nat) (l : List Int) (xs : List (List Int)) (t : List Int), PyFlat.rows k l = some (xs, t) → xs.length = k
  | 0, l, xs, t, h => by
    cases h
    rfl
  | k + 1, l, xs, t, h => by
    unfold PyFlat.rows at h
    split at h
    · cases h
    · split at h
      · cases h
      · rename_i e
        cases h
        rw [List.length_cons, rows_len k _ _ _ e]
theorem call_shape {l t : List Int} {c : RCall} (h : PyFlat.call PyRc57.shape l = some (c, t)) : ∃ p n k xs rs, PyRc57.shape p = some (n, k) ∧ c = (p :: xs) :: rs ∧ xs.length = n ∧ rs.length = k := by
  cases l with
  | nil => cases h
  | cons p r =>
    simp only [PyFlat.call] at h
    split at h
    · cases h
    · rename_i n k hs
      split at h
      · cases h
      · rename_i hl
        split at h
        · cases h
        · rename_i xs t' hr
          cases h
          exact ⟨p, n, k, r.take n, xs, hs, rfl, by rw [List.length_take]; omega, rows_len k _ _ _ hr⟩
theorem calls_shape : ∀ (f : Nat) (l : List Int) (cs : List RCall), PyFlat.calls PyRc57.shape f l = some cs → ∀ c ∈ cs, ∃ p n k xs rs, PyRc57.shape p = some (n, k) ∧ c = (p :: xs) :: rs ∧ xs.length = n ∧ rs.length = k
  | f, [], cs, h => by
    cases f <;> (cases h; exact fun c hc => absurd hc List.not_mem_nil)
  | 0, p :: r, cs, h => by cases h
  | f + 1, p :: r, cs, h => by
    unfold PyFlat.calls at h
    split at h
    · cases h
    · rename_i c t hc
      split at h
      · cases h
      · rename_i cs' hcs
        cases h
        intro d hd
        rcases List.mem_cons.mp hd with e | e
        · rw [e]; exact call_shape hc
        · exact calls_shape f t cs' hcs d e
theorem row_ok {b : List Int} {lo : Int} {m : Nat} (h1 : PyInside.lists [(0, 255, 0, m)] [b] = true) : RowOk m b := by
  simp only [PyInside.lists, Bool.and_eq_true, decide_eq_true_eq, List.all_eq_true, PyInside.within] at h1
  exact ⟨h1.1.1.2, fun x hx => (h1.1.2 x hx).1⟩
theorem good_of {c : RCall} {p : Int} {n k : Nat} {xs : List Int} {rs : List (List Int)} (hs : PyRc57.shape p = some (n, k)) (e : c = (p :: xs) :: rs) (hx : xs.length = n) (hr : rs.length = k)
    (hb : PyInside.call PyRc57.bound c = true) (ha : Rc57Neutral.asked1 (PyRc57.whole c) = true) : Good c := by
  subst e
  unfold PyInside.call at hb
  rw [Bool.and_eq_true] at hb
  have hb2 := hb.2
  unfold PyRc57.shape at hs
  repeat' split at hs
  all_goals first
    | (cases hs; done)
    | skip
  all_goals (cases hs; rename_i e; subst e)
  · -- begin
    rw [List.length_eq_zero_iff.mp hx, List.length_eq_zero_iff.mp hr]
    exact .begin
  · obtain ⟨a, rfl⟩ := List.length_eq_one_iff.mp hx
    rw [List.length_eq_zero_iff.mp hr] at ha ⊢
    refine .people ?_
    have : (Rc57Neutral.whole32 a && (decide (a ≤ 5) || decide (16 < a))) = true := ha
    rw [Bool.and_eq_true, Bool.or_eq_true, decide_eq_true_eq, decide_eq_true_eq] at this
    exact this.2
  · obtain ⟨a, rfl⟩ := List.length_eq_one_iff.mp hx
    obtain ⟨b, rfl⟩ := List.length_eq_one_iff.mp hr
    exact .wish (row_ok (lo := 0) hb2)
  · obtain ⟨a, rfl⟩ := List.length_eq_one_iff.mp hx
    obtain ⟨b, rfl⟩ := List.length_eq_one_iff.mp hr
    exact .trade (row_ok (lo := 0) hb2)
  · obtain ⟨a, rfl⟩ := List.length_eq_one_iff.mp hx
    obtain ⟨b, rfl⟩ := List.length_eq_one_iff.mp hr
    exact .turns (row_ok (lo := 0) hb2)
  · rw [List.length_eq_zero_iff.mp hx]
    obtain ⟨b, rfl⟩ := List.length_eq_one_iff.mp hr
    exact .good (row_ok (lo := 0) hb2)
  · obtain ⟨a, rfl⟩ := List.length_eq_one_iff.mp hx
    obtain ⟨b, rfl⟩ := List.length_eq_one_iff.mp hr
    exact .order (row_ok (lo := 0) hb2)
  · rw [List.length_eq_zero_iff.mp hx]
    obtain ⟨b, rfl⟩ := List.length_eq_one_iff.mp hr
    exact .group (row_ok (lo := 0) hb2)
  · obtain ⟨a, rfl⟩ := List.length_eq_one_iff.mp hx
    rw [List.length_eq_zero_iff.mp hr]
    exact .eat
/-- **What may be handed in, and what is due.** -/
theorem asked_good {l : List Int} (h : PyRc57.answers_asked l = true) : ∃ raw : List RCall, PyFlat.calls PyRc57.shape l.length l = some raw ∧ raw.length ≤ 400 ∧ (∀ c ∈ raw, Good c) ∧
    PyRc57.answers l = PyFlat.told (PyFlat.played Rc57Neutral.step Rc57Neutral.start (raw.map PyRc57.whole)) ∧ (PyRc57.answers l).length ≤ 10000000 := by
  unfold PyRc57.answers_asked at h
  split at h
  · cases h
  · rename_i raw hraw
    rw [Bool.and_eq_true, Bool.and_eq_true, Bool.and_eq_true] at h
    obtain ⟨⟨⟨h1, h2⟩, h3⟩, h4⟩ := h
    refine ⟨raw, hraw, of_decide_eq_true h1, fun c hc => ?_, ?_, of_decide_eq_true h4⟩
    · obtain ⟨p, n, k, xs, rs, e1, e2, e3, e4⟩ := calls_shape _ _ _ hraw c hc
      refine good_of e1 e2 e3 e4 (List.all_eq_true.mp h2 c hc) ?_
      unfold Rc57Neutral.asked at h3
      rw [Bool.and_eq_true, Bool.and_eq_true] at h3
      exact List.all_eq_true.mp h3.1.1 _ (List.mem_map.mpr ⟨c, hc, rfl⟩)
    · unfold PyRc57.answers PyRc57.calls
      rw [hraw]
/-! ### one step, as the program goes it -/
abbrev stepOf (s : Abs) (c : RCall) : Abs × List Int := Rc57Neutral.step s (PyRc57.whole c)
abbrev natl (b : List Int) : List Nat := b.map Int.toNat
theorem gift_each (s : Abs) (b : List Int) : Rc57.isGift s (natl b) (b.length : Int) = Rc57.each s.n (natl b) := by
  unfold Rc57.isGift
  rw [Bool.eq_iff_iff, Bool.and_eq_true, decide_eq_true_eq]
  constructor
  · exact fun h => h.2
  · intro h
    refine ⟨?_, h⟩
    have := (each_Each h).len
    rw [List.length_map] at this
    omega
theorem step_nobody {s : Abs} {c : RCall} (hg : Good c) (h1 : c ≠ [[0]]) (h2 : ∀ a, c ≠ [[1, a]]) (hn : s.n = 0) : stepOf s c = (s, [-4]) := by
  cases hg with
  | begin => exact absurd rfl h1
  | people => exact absurd rfl (h2 _)
  | _ =>
    show ((Rc57.does s _).1, (Rc57.does s _).2.value :: (Rc57.does s _).2.numbers.map fun (b : Nat) => (b : Int)) = _
    unfold Rc57.does
    simp only [hn, if_true]
    rfl
theorem step_begin (s : Abs) : stepOf s [[0]] = ({}, [0]) := rfl
theorem step_people (s : Abs) (a : Int) : stepOf s [[1, a]] = if a < 1 ∨ 16 < a then (s, [-1]) else ({ n := a.toNat, wishes := List.replicate a.toNat [] }, [0]) := by
  show ((Rc57.does s (.people a)).1, (Rc57.does s (.people a)).2.value :: (Rc57.does s (.people a)).2.numbers.map fun (b : Nat) => (b : Int)) = _
  unfold Rc57.does
  by_cases c : a < 1 ∨ 16 < a
  · rw [if_pos c]
    simp only [show a < 1 ∨ ((Rc57.PEOPLE : Nat) : Int) < a from c, if_true]
    rfl
  · rw [if_neg c]
    simp only [show ¬ (a < 1 ∨ ((Rc57.PEOPLE : Nat) : Int) < a) from c, if_false]
    rfl
theorem step_wish {s : Abs} (hn : s.n ≠ 0) (i : Int) (b : List Int) :
    stepOf s [[2, i], b] = if i < 0 ∨ (s.n : Int) ≤ i ∨ Rc57.each s.n (natl b) = false then (s, [-1]) else ({ s with wishes := s.wishes.set i.toNat (natl b) }, [0]) := by
  show ((Rc57.does s (.wish (natl b) (b.length : Int) i)).1, (Rc57.does s (.wish (natl b) (b.length : Int) i)).2.value :: (Rc57.does s (.wish (natl b) (b.length : Int) i)).2.numbers.map fun (b : Nat) => (b : Int)) = _
  unfold Rc57.does
  simp only [hn, if_false, gift_each]
  by_cases c : i < 0 ∨ (s.n : Int) ≤ i ∨ Rc57.each s.n (natl b) = false
  · simp only [c, if_true]
    rfl
  · simp only [c, if_false]
    rfl
theorem step_unknown {s : Abs} {c : RCall} (hg : Good c) (h1 : c ≠ [[0]]) (h2 : ∀ a, c ≠ [[1, a]]) (h3 : ∀ a b, c ≠ [[2, a], b]) (hn : s.n ≠ 0) (ha : Rc57.all s = false) : stepOf s c = (s, [-3]) := by
  cases hg with
  | begin => exact absurd rfl h1
  | people => exact absurd rfl (h2 _)
  | wish => exact absurd rfl (h3 _ _)
  | _ =>
    show ((Rc57.does s _).1, (Rc57.does s _).2.value :: (Rc57.does s _).2.numbers.map fun (b : Nat) => (b : Int)) = _
    unfold Rc57.does
    simp only [hn, ha, if_false, if_true]
    rfl
def toInts (l : List Nat) : List Int := l.map fun (x : Nat) => (x : Int)
/-- what is written within a room -/
def writes (most : Nat) (room : Int) (l : List Nat) : List Int := if Rc57.roomOf most room < l.length then [-2] else ((l.length : Nat) : Int) :: toInts l
theorem written_writes (most : Nat) (room : Int) (l : List Nat) : (Rc57.written most room l).value :: (Rc57.written most room l).numbers.map (fun (b : Nat) => (b : Int)) = writes most room l := by
  unfold Rc57.written writes
  split <;> rfl
theorem step_trade {s : Abs} (hn : s.n ≠ 0) (ha : Rc57.all s = true) (m : Int) (b : List Int) :
    stepOf s [[3, m], b] = (s, if Rc57.each s.n (natl b) = false then [-1] else writes 16 m (Rc57.traded s.n s.wishes (natl b))) := by
  show ((Rc57.does s (.trade (natl b) (b.length : Int) m)).1, (Rc57.does s (.trade (natl b) (b.length : Int) m)).2.value :: (Rc57.does s (.trade (natl b) (b.length : Int) m)).2.numbers.map fun (b : Nat) => (b : Int)) = _
  unfold Rc57.does
  simp only [hn, ha, if_false, gift_each, Bool.true_eq_false]
  by_cases c : Rc57.each s.n (natl b) = false
  · simp only [c, if_true]
    rfl
  · simp only [c, Bool.true_eq_false, if_false]
    rw [written_writes]
    rfl
theorem step_turns {s : Abs} (hn : s.n ≠ 0) (ha : Rc57.all s = true) (m : Int) (b : List Int) :
    stepOf s [[4, m], b] = (s, if Rc57.each s.n (natl b) = false then [-1] else writes 16 m (Rc57.turns s.n s.wishes (natl b))) := by
  show ((Rc57.does s (.turns (natl b) (b.length : Int) m)).1, (Rc57.does s (.turns (natl b) (b.length : Int) m)).2.value :: (Rc57.does s (.turns (natl b) (b.length : Int) m)).2.numbers.map fun (b : Nat) => (b : Int)) = _
  unfold Rc57.does
  simp only [hn, ha, if_false, gift_each, Bool.true_eq_false]
  by_cases c : Rc57.each s.n (natl b) = false
  · simp only [c, if_true]
    rfl
  · simp only [c, Bool.true_eq_false, if_false]
    rw [written_writes]
    rfl
/-- whether a gift is good -/
def goodB (s : Abs) (l : List Nat) : Bool := !(Rc57.orders s.n (List.range s.n)).any (Rc57.isBetter s.n s.wishes l)
theorem step_good {s : Abs} (hn : s.n ≠ 0) (ha : Rc57.all s = true) (b : List Int) :
    stepOf s [[5], b] = (s, if Rc57.each s.n (natl b) = false then [-1] else [if goodB s (natl b) = true then 1 else 0]) := by
  show ((Rc57.does s (.good (natl b) (b.length : Int))).1, (Rc57.does s (.good (natl b) (b.length : Int))).2.value :: (Rc57.does s (.good (natl b) (b.length : Int))).2.numbers.map fun (b : Nat) => (b : Int)) = _
  unfold Rc57.does goodB
  simp only [hn, ha, if_false, gift_each, Bool.true_eq_false]
  by_cases c : Rc57.each s.n (natl b) = false
  · simp only [c, if_true]
    rfl
  · simp only [c, Bool.true_eq_false, if_false]
    cases (Rc57.orders s.n (List.range s.n)).any (Rc57.isBetter s.n s.wishes (natl b)) <;> rfl
/-- the first order by which a gift comes in turn -/
def orderB (s : Abs) (l : List Nat) : Option (List Nat) := (Rc57.orders s.n (List.range s.n)).find? fun (o : List Nat) => Rc57.turns s.n s.wishes o == l
theorem step_order {s : Abs} (hn : s.n ≠ 0) (ha : Rc57.all s = true) (m : Int) (b : List Int) :
    stepOf s [[6, m], b] = (s, if Rc57.each s.n (natl b) = false then [-1] else match orderB s (natl b) with
      | some o => writes 16 m o
      | none => [0]) := by
  show ((Rc57.does s (.order (natl b) (b.length : Int) m)).1, (Rc57.does s (.order (natl b) (b.length : Int) m)).2.value :: (Rc57.does s (.order (natl b) (b.length : Int) m)).2.numbers.map fun (b : Nat) => (b : Int)) = _
  unfold Rc57.does orderB
  simp only [hn, ha, if_false, gift_each, Bool.true_eq_false]
  by_cases c : Rc57.each s.n (natl b) = false
  · simp only [c, if_true]
    rfl
  · simp only [c, Bool.true_eq_false, if_false]
    cases (Rc57.orders s.n (List.range s.n)).find? fun (o : List Nat) => Rc57.turns s.n s.wishes o == natl b with
    | none => rfl
    | some o =>
      show (s, (Rc57.written 16 m o).value :: (Rc57.written 16 m o).numbers.map fun (b : Nat) => (b : Int)) = _
      rw [written_writes]
/-- the least group that does better by itself -/
def groupB (s : Abs) (own l : List Nat) : Option Nat := (List.range (2 ^ s.n)).find? fun (k : Nat) => Rc57.blocks s.n s.wishes own l k
theorem step_group {s : Abs} (hn : s.n ≠ 0) (ha : Rc57.all s = true) (b : List Int) :
    stepOf s [[7], b] = (s, if Rc57.twoGifts s (natl b) (b.length : Int) = false then [-1] else match groupB s ((natl b).take s.n) ((natl b).drop s.n) with
      | some k => [1, (k : Int)]
      | none => [0, 0]) := by
  show ((Rc57.does s (.group (natl b) (b.length : Int))).1, (Rc57.does s (.group (natl b) (b.length : Int))).2.value :: (Rc57.does s (.group (natl b) (b.length : Int))).2.numbers.map fun (b : Nat) => (b : Int)) = _
  unfold Rc57.does groupB
  simp only [hn, ha, if_false, Bool.true_eq_false]
  by_cases c : Rc57.twoGifts s (natl b) (b.length : Int) = false
  · simp only [c, if_true]
    rfl
  · simp only [c, Bool.true_eq_false, if_false]
    cases (List.range (2 ^ s.n)).find? fun (k : Nat) => Rc57.blocks s.n s.wishes ((natl b).take s.n) ((natl b).drop s.n) k with
    | none => rfl
    | some o => rfl
theorem step_eat {s : Abs} (hn : s.n ≠ 0) (ha : Rc57.all s = true) (h5 : s.n ≤ 8) (m : Int) :
    stepOf s [[8, m]] = (s, writes 128 m (Rc57.shares s.n s.wishes)) := by
  show ((Rc57.does s (.eat m)).1, (Rc57.does s (.eat m)).2.value :: (Rc57.does s (.eat m)).2.numbers.map fun (b : Nat) => (b : Int)) = _
  unfold Rc57.does
  have : ¬ Rc57.EATERS < s.n := by show ¬ 8 < s.n; omega
  simp only [hn, ha, if_false, Bool.true_eq_false, this]
  rw [written_writes]
end My
namespace My
open Rc57

/-! ### orders -/
theorem mem_orders : ∀ (k : Nat) (l h : List Nat), l.length = k → (h ∈ orders k l ↔ h.Perm l)
  | 0, l, h, e => by
    rw [List.length_eq_zero_iff.mp e]
    show h ∈ [[]] ↔ _
    rw [List.mem_singleton, List.perm_nil]
  | k + 1, l, h, e => by
    show h ∈ (l.flatMap fun (x : Nat) => (orders k (l.erase x)).map fun (r : List Nat) => x :: r) ↔ _
    rw [List.mem_flatMap]
    constructor
    · rintro ⟨x, hx, hm⟩
      obtain ⟨r, hr, rfl⟩ := List.mem_map.mp hm
      exact List.cons_perm_iff_perm_erase.mpr ⟨hx, (mem_orders k _ _ (by rw [List.length_erase_of_mem hx, e]; rfl)).mp hr⟩
    · intro hp
      cases h with
      | nil => have := hp.length_eq; rw [e] at this; cases this
      | cons x r =>
        obtain ⟨hx, hr⟩ := List.cons_perm_iff_perm_erase.mp hp
        exact ⟨x, hx, List.mem_map.mpr ⟨r, (mem_orders k _ _ (by rw [List.length_erase_of_mem hx, e]; rfl)).mpr hr, rfl⟩⟩

/-! ### a gift that comes in turn -/
def comes (w : Wishes) (g : List Nat) : List Nat → List Nat → Bool
  | [], _ => true
  | i :: r, l => dearest w i l == g.getD i 0 && comes w g r (l.filter fun y => y != g.getD i 0)
theorem comes_taken (w : Wishes) (g : List Nat) : ∀ (o L : List Nat), o.Nodup → ((∀ i ∈ o, ((taken w o L).lookup i).getD 0 = g.getD i 0) ↔ comes w g o L = true)
  | [], L, _ => ⟨fun _ => rfl, fun _ i hi => absurd hi List.not_mem_nil⟩
  | i :: r, L, hn => by
    obtain ⟨h1, h2⟩ := List.nodup_cons.mp hn
    have ih := fun L => comes_taken w g r L h2
    have at_i : ((taken w (i :: r) L).lookup i).getD 0 = dearest w i L := by
      show (List.lookup i ((i, dearest w i L) :: _)).getD 0 = _
      rw [List.lookup_cons, beq_self_eq_true]
      rfl
    have at_j : ∀ j ∈ r, ((taken w (i :: r) L).lookup j).getD 0 = ((taken w r (L.filter fun y => y != dearest w i L)).lookup j).getD 0 := fun j hj => by
      show (List.lookup j ((i, dearest w i L) :: _)).getD 0 = _
      have : (j == i) = false := by rw [beq_eq_false_iff_ne]; intro e; exact h1 (e ▸ hj)
      rw [List.lookup_cons, this]
    show _ ↔ (dearest w i L == g.getD i 0 && comes w g r (L.filter fun y => y != g.getD i 0)) = true
    rw [Bool.and_eq_true, beq_iff_eq, ← ih]
    constructor
    · intro h
      have e := h i (List.mem_cons_self ..)
      rw [at_i] at e
      refine ⟨e, fun j hj => ?_⟩
      have := h j (List.mem_cons_of_mem _ hj)
      rw [at_j j hj, e] at this
      exact this
    · rintro ⟨e, h⟩ j hj
      rcases List.mem_cons.mp hj with c | c
      · rw [c, at_i]; exact e
      · rw [at_j j c, e]; exact h j c
theorem turns_comes {n : Nat} {w : Wishes} {g o : List Nat} (hg : g.length = n) (ho : o.Perm (List.range n)) : (turns n w o == g) = comes w g o (List.range n) := by
  rw [Bool.eq_iff_iff, beq_iff_eq, ← comes_taken w g o _ (ho.nodup_iff.mpr List.nodup_range)]
  unfold turns giftOf
  constructor
  · intro e i hi
    have hin := List.mem_range.mp (ho.mem_iff.mp hi)
    rw [← e, getD_map_range hin]
  · intro h
    refine ext_getD (by rw [List.length_map, List.length_range, hg]) fun i hi => ?_
    rw [List.length_map, List.length_range] at hi
    rw [getD_map_range hi]
    exact h i (ho.mem_iff.mpr (List.mem_range.mpr hi))
theorem dearest_mono {n : Nat} {w : Wishes} (hw : RightW n w) {i : Nat} (hi : i < n) {L L' : List Nat} (hn : dearest w i L < n) (hs : ∀ x ∈ L', x ∈ L) (hd : dearest w i L ∈ L') : dearest w i L' = dearest w i L := by
  obtain ⟨e, _⟩ := dearest_find hw hi (l := L) ⟨_, hs _ hd, hn⟩
  have := find_mono (p := fun x => L.contains x) (q := fun x => L'.contains x) (fun x hx => List.contains_iff_mem.mpr (hs x (List.contains_iff_mem.mp hx))) e (List.contains_iff_mem.mpr hd)
  conv => lhs; unfold dearest
  rw [this]
  rfl
/-- who is ready may come first -/
theorem comes_sooner {n : Nat} {w : Wishes} {g : List Nat} (hw : RightW n w) (hg : Each n g) {i : Nat} : ∀ (o L : List Nat), o.Nodup → (∀ j ∈ o, j < n) → (∀ j ∈ o, g.getD j 0 ∈ L) → i ∈ o → dearest w i L = g.getD i 0 → comes w g o L = true →
    comes w g (o.erase i) (L.filter fun y => y != g.getD i 0) = true
  | [], L, _, _, _, hi, _, _ => absurd hi List.not_mem_nil
  | x :: r, L, hn, hlt, hL, hi, hd, hc => by
    obtain ⟨h1, h2⟩ := List.nodup_cons.mp hn
    have hc' : (dearest w x L == g.getD x 0 && comes w g r (L.filter fun y => y != g.getD x 0)) = true := hc
    rw [Bool.and_eq_true, beq_iff_eq] at hc'
    have gl : ∀ j ∈ x :: r, j < g.length := fun j hj => by rw [hg.len]; exact hlt j hj
    have glt : ∀ j ∈ x :: r, g.getD j 0 < n := fun j hj => hg.lt _ (getD_mem (gl j hj))
    by_cases c : x = i
    · subst c
      rw [List.erase_cons_head]
      exact hc'.2
    · have hir : i ∈ r := (List.mem_cons.mp hi).resolve_left fun e => c e.symm
      have hx := List.mem_cons_self (a := x) (l := r)
      have gne : g.getD x 0 ≠ g.getD i 0 := fun e => c (getD_inj hg.nodup (gl x hx) (gl i hi) e)
      rw [List.erase_cons_tail (by rw [beq_iff_eq]; exact c)]
      show (dearest w x (L.filter fun y => y != g.getD i 0) == g.getD x 0 && comes w g (r.erase i) ((L.filter fun y => y != g.getD i 0).filter fun y => y != g.getD x 0)) = true
      rw [Bool.and_eq_true, beq_iff_eq]
      constructor
      · rw [dearest_mono hw (hlt x hx) (by rw [hc'.1]; exact glt x hx) (fun y hy => (List.mem_filter.mp hy).1) (by rw [hc'.1]; exact List.mem_filter.mpr ⟨hL x hx, bne_iff_ne.mpr gne⟩)]
        exact hc'.1
      · have e : ((L.filter fun y => y != g.getD i 0).filter fun y => y != g.getD x 0) = ((L.filter fun y => y != g.getD x 0).filter fun y => y != g.getD i 0) := by
          rw [List.filter_filter, List.filter_filter]
          exact List.filter_congr fun y _ => Bool.and_comm _ _
        rw [e]
        refine comes_sooner hw hg r _ h2 (fun j hj => hlt j (List.mem_cons_of_mem _ hj)) (fun j hj => ?_) hir ?_ hc'.2
        · refine List.mem_filter.mpr ⟨hL j (List.mem_cons_of_mem _ hj), bne_iff_ne.mpr fun q => ?_⟩
          have := getD_inj hg.nodup (gl j (List.mem_cons_of_mem _ hj)) (gl x hx) q
          exact h1 (this ▸ hj)
        · rw [dearest_mono hw (hlt i hi) (by rw [hd]; exact glt i hi) (fun y hy => (List.mem_filter.mp hy).1) (by rw [hd]; exact List.mem_filter.mpr ⟨hL i hi, bne_iff_ne.mpr gne.symm⟩)]
          exact hd
/-- the least who is ready, one after another -/
def greedy (w : Wishes) (g : List Nat) : Nat → List Nat → List Nat → Option (List Nat)
  | 0, _, _ => some []
  | k + 1, l, L => match l.find? (fun i => dearest w i L == g.getD i 0) with
    | none => none
    | some i => (greedy w g k (l.erase i) (L.filter fun y => y != g.getD i 0)).map fun r => i :: r
theorem findSome_first {α β : Type} {F : α → Option β} {p : α → Bool} {l : List α} {i : α} (h1 : ∀ x ∈ l, p x = false → F x = none) (h2 : l.find? p = some i) (h3 : F i = none → ∀ x ∈ l, F x = none) : l.findSome? F = F i := by
  cases e : F i with
  | none => rw [List.findSome?_eq_none_iff]; exact h3 e
  | some y =>
    obtain ⟨_, as, bs, rfl, hb⟩ := List.find?_eq_some_iff_append.mp h2
    rw [List.findSome?_append]
    have : as.findSome? F = none := by
      rw [List.findSome?_eq_none_iff]
      intro x hx
      refine h1 x (List.mem_append_left _ hx) ?_
      have := hb x hx
      cases q : p x
      · rfl
      · rw [q] at this; cases this
    rw [this, List.findSome?_cons, e]
    rfl
theorem find_none_of {p : List Nat → Bool} (l : List (List Nat)) (h : ∀ x ∈ l, p x = false) : l.find? p = none := by
  rw [List.find?_eq_none]
  intro x hx q
  rw [h x hx] at q
  cases q
theorem find_orders {n : Nat} {w : Wishes} {g : List Nat} (hw : RightW n w) (hg : Each n g) : ∀ (k : Nat) (l L : List Nat), l.length = k → l.Nodup → (∀ j ∈ l, j < n) → (∀ j ∈ l, g.getD j 0 ∈ L) →
    (orders k l).find? (fun o => comes w g o L) = greedy w g k l L
  | 0, l, L, _, _, _, _ => rfl
  | k + 1, l, L, hlen, hn, hlt, hL => by
    show (l.flatMap fun (x : Nat) => (orders k (l.erase x)).map fun (r : List Nat) => x :: r).find? _ = _
    have hE : ∀ x ∈ l, (l.erase x).length = k := fun x hx => by rw [List.length_erase_of_mem hx, hlen]; rfl
    have gl : ∀ j ∈ l, j < g.length := fun j hj => by rw [hg.len]; exact hlt j hj
    have hF : ∀ x, (((orders k (l.erase x)).map fun (r : List Nat) => x :: r).find? fun o => comes w g o L) = ((orders k (l.erase x)).find? fun r => dearest w x L == g.getD x 0 && comes w g r (L.filter fun y => y != g.getD x 0)).map fun (r : List Nat) => x :: r := fun x => by
      rw [List.find?_map]
      rfl
    have hno : ∀ x ∈ l, (dearest w x L == g.getD x 0) = false → (((orders k (l.erase x)).map fun (r : List Nat) => x :: r).find? fun o => comes w g o L) = none := fun x _ q => by
      rw [hF x, q, find_none_of _ fun r _ => Bool.false_and _]
      rfl
    have hyes : ∀ x ∈ l, (dearest w x L == g.getD x 0) = true → (((orders k (l.erase x)).map fun (r : List Nat) => x :: r).find? fun o => comes w g o L) = (greedy w g k (l.erase x) (L.filter fun y => y != g.getD x 0)).map fun r => x :: r := fun x hx q => by
      have ih := find_orders hw hg k (l.erase x) (L.filter fun y => y != g.getD x 0) (hE x hx) (hn.erase x) (fun j hj => hlt j (List.mem_of_mem_erase hj)) (fun j hj => by
        have h1 := (hn.mem_erase_iff).mp hj
        refine List.mem_filter.mpr ⟨hL j h1.2, bne_iff_ne.mpr fun e => h1.1 (getD_inj hg.nodup (gl j h1.2) (gl x hx) e)⟩)
      rw [hF x, q, ← ih]
      simp only [Bool.true_and]
    rw [List.find?_flatMap]
    show _ = match l.find? (fun i => dearest w i L == g.getD i 0) with
      | none => none
      | some i => (greedy w g k (l.erase i) (L.filter fun y => y != g.getD i 0)).map fun r => i :: r
    cases e : l.find? (fun i => dearest w i L == g.getD i 0) with
    | none =>
      show _ = none
      rw [List.findSome?_eq_none_iff]
      intro x hx
      have := List.find?_eq_none.mp e x hx
      exact hno x hx (by cases q : (dearest w x L == g.getD x 0); rfl; exact absurd q this)
    | some i =>
      have hi := List.mem_of_find?_eq_some e
      have hr := List.find?_some e
      show _ = (greedy w g k (l.erase i) (L.filter fun y => y != g.getD i 0)).map fun r => i :: r
      rw [← hyes i hi hr]
      refine findSome_first (p := fun i => dearest w i L == g.getD i 0) hno e fun z x hx => ?_
      rw [hF i, Option.map_eq_none_iff, List.find?_eq_none] at z
      rw [hF x, Option.map_eq_none_iff, List.find?_eq_none]
      intro r hr2 q
      have pr := (mem_orders k _ _ (hE x hx)).mp hr2
      have po : (x :: r).Perm l := List.cons_perm_iff_perm_erase.mpr ⟨hx, pr⟩
      have hc : comes w g (x :: r) L = true := q
      have hs := comes_sooner hw hg (x :: r) L (po.nodup_iff.mpr hn) (fun j hj => hlt j (po.mem_iff.mp hj)) (fun j hj => hL j (po.mem_iff.mp hj)) (po.mem_iff.mpr hi) (beq_iff_eq.mp hr) hc
      have hm : (x :: r).erase i ∈ orders k (l.erase i) := (mem_orders k _ _ (hE i hi)).mpr (po.erase i)
      refine z _ hm ?_
      rw [Bool.and_eq_true]
      exact ⟨hr, hs⟩
theorem find_congr_mem {α : Type} {p q : α → Bool} : ∀ {l : List α}, (∀ x ∈ l, p x = q x) → l.find? p = l.find? q
  | [], _ => rfl
  | a :: l, h => by
    rw [List.find?_cons, List.find?_cons, h a (List.mem_cons_self ..), find_congr_mem fun x hx => h x (List.mem_cons_of_mem _ hx)]
theorem orderB_greedy {s : Abs} {g : List Nat} (hw : RightW s.n s.wishes) (hg : Each s.n g) : orderB s g = greedy s.wishes g s.n (List.range s.n) (List.range s.n) := by
  unfold orderB
  rw [← find_orders hw hg s.n (List.range s.n) (List.range s.n) List.length_range List.nodup_range (fun j hj => List.mem_range.mp hj) (fun j hj => List.mem_range.mpr (hg.lt _ (getD_mem (by rw [hg.len]; exact List.mem_range.mp hj))))]
  exact find_congr_mem fun o ho => turns_comes hg.len ((mem_orders _ _ _ List.length_range).mp ho)
end My
namespace My
open Rc57

/-! ### how dear -/
theorem rank_holder (w : Wishes) (i x : Nat) : rank w i x = holder (orderOf w i) x := rfl
theorem find_le {p : Nat → Bool} : ∀ {q : List Nat} {d x : Nat}, q.find? p = some d → x ∈ q → p x = true → holder q d ≤ holder q x
  | [], _, _, _, h, _ => absurd h List.not_mem_nil
  | a :: t, d, x, h, hx, hp => by
    unfold holder
    rw [List.findIdx_cons, List.findIdx_cons]
    rw [List.find?_cons] at h
    cases c : p a with
    | true =>
      rw [c] at h
      cases Option.some.inj h
      rw [beq_self_eq_true]
      exact Nat.zero_le _
    | false =>
      rw [c] at h
      have hd : p d = true := List.find?_some h
      have e1 : (a == d) = false := by rw [beq_eq_false_iff_ne]; intro e; rw [e, hd] at c; cases c
      have e2 : (a == x) = false := by rw [beq_eq_false_iff_ne]; intro e; rw [e, hp] at c; cases c
      have hx' : x ∈ t := (List.mem_cons.mp hx).resolve_left fun e => by rw [e, beq_self_eq_true] at e2; cases e2
      rw [e1, e2]
      exact Nat.succ_le_succ (find_le (p := p) h hx' hp)
theorem rank_dearest {n : Nat} {w : Wishes} (hw : RightW n w) {i x : Nat} (hi : i < n) {L : List Nat} (hx : x ∈ L) (hxn : x < n) : rank w i (dearest w i L) ≤ rank w i x := by
  obtain ⟨e, _⟩ := dearest_find hw hi ⟨x, hx, hxn⟩
  exact find_le e ((hw.2 i hi).all x hxn) (List.contains_iff_mem.mpr hx)
theorem rank_inj {n : Nat} {w : Wishes} (hw : RightW n w) {i x y : Nat} (hi : i < n) (hx : x < n) (hy : y < n) (e : rank w i x = rank w i y) : x = y := by
  have h1 := holder_has ((hw.2 i hi).all x hx)
  have h2 := holder_has ((hw.2 i hi).all y hy)
  rw [← h1, ← h2]
  exact congrArg (fun z => (orderOf w i).getD z 0) e
theorem isBetter_iff {n : Nat} {w : Wishes} {g h : List Nat} : isBetter n w g h = true ↔ (∀ i, i < n → rank w i (h.getD i 0) ≤ rank w i (g.getD i 0)) ∧ ∃ i, i < n ∧ rank w i (h.getD i 0) < rank w i (g.getD i 0) := by
  unfold isBetter
  rw [Bool.and_eq_true, List.all_eq_true, List.any_eq_true]
  constructor
  · rintro ⟨h1, i, h2, h3⟩
    exact ⟨fun i hi => of_decide_eq_true (h1 i (List.mem_range.mpr hi)), i, List.mem_range.mp h2, of_decide_eq_true h3⟩
  · rintro ⟨h1, i, h2, h3⟩
    exact ⟨fun i hi => decide_eq_true (h1 i (List.mem_range.mp hi)), i, List.mem_range.mpr h2, decide_eq_true h3⟩
/-- what comes in turn can't be bettered -/
theorem comes_best {n : Nat} {w : Wishes} {g h : List Nat} (hw : RightW n w) (hg : Each n g) (hh : Each n h) (hr : ∀ i, i < n → rank w i (h.getD i 0) ≤ rank w i (g.getD i 0)) :
    ∀ (o L : List Nat), o.Nodup → (∀ j ∈ o, j < n) → (∀ j ∈ o, h.getD j 0 ∈ L) → comes w g o L = true → ∀ j ∈ o, h.getD j 0 = g.getD j 0
  | [], _, _, _, _, _, j, hj => absurd hj List.not_mem_nil
  | i :: r, L, hn, hlt, hL, hc, j, hj => by
    obtain ⟨h1, h2⟩ := List.nodup_cons.mp hn
    have hc' : (dearest w i L == g.getD i 0 && comes w g r (L.filter fun y => y != g.getD i 0)) = true := hc
    rw [Bool.and_eq_true, beq_iff_eq] at hc'
    have hi := hlt i (List.mem_cons_self ..)
    have hlt' : ∀ j, j < n → h.getD j 0 < n := fun j hj => hh.lt _ (getD_mem (by rw [hh.len]; exact hj))
    have glt' : ∀ j, j < n → g.getD j 0 < n := fun j hj => hg.lt _ (getD_mem (by rw [hg.len]; exact hj))
    have a := rank_dearest hw hi (hL i (List.mem_cons_self ..)) (hlt' i hi)
    rw [hc'.1] at a
    have e : h.getD i 0 = g.getD i 0 := rank_inj hw hi (hlt' i hi) (glt' i hi) (Nat.le_antisymm (hr i hi) a)
    rcases List.mem_cons.mp hj with c | c
    · rw [c]; exact e
    · refine comes_best hw hg hh hr r _ h2 (fun j hj => hlt j (List.mem_cons_of_mem _ hj)) (fun j hj => ?_) hc'.2 j c
      refine List.mem_filter.mpr ⟨hL j (List.mem_cons_of_mem _ hj), bne_iff_ne.mpr fun q => ?_⟩
      rw [← e] at q
      have := getD_inj hh.nodup (by rw [hh.len]; exact hlt j (List.mem_cons_of_mem _ hj)) (by rw [hh.len]; exact hi) q
      exact h1 (this ▸ hj)
theorem greedy_stuck {w : Wishes} {g : List Nat} : ∀ (k : Nat) (l L : List Nat), l.length = k → l.Nodup → (∀ x, x ∈ L ↔ ∃ j ∈ l, g.getD j 0 = x) → (∀ i ∈ l, ∀ j ∈ l, g.getD i 0 = g.getD j 0 → i = j) → greedy w g k l L = none →
    ∃ l' L' : List Nat, l' ≠ [] ∧ l'.Nodup ∧ (∀ j ∈ l', j ∈ l) ∧ (∀ x, x ∈ L' ↔ ∃ j ∈ l', g.getD j 0 = x) ∧ ∀ i ∈ l', dearest w i L' ≠ g.getD i 0
  | 0, _, _, _, _, _, _, h => by cases h
  | k + 1, l, L, hlen, hn, hL, hinj, h => by
    have h' : (match l.find? (fun i => dearest w i L == g.getD i 0) with
      | none => none
      | some i => (greedy w g k (l.erase i) (L.filter fun y => y != g.getD i 0)).map fun r => i :: r) = none := h
    cases e : l.find? (fun i => dearest w i L == g.getD i 0) with
    | none =>
      refine ⟨l, L, (fun q => by rw [q] at hlen; cases hlen), hn, fun _ z => z, hL, fun i hi q => ?_⟩
      exact List.find?_eq_none.mp e i hi (beq_iff_eq.mpr q)
    | some i =>
      rw [e] at h'
      have hi := List.mem_of_find?_eq_some e
      obtain ⟨l', L', a, b, c, d⟩ := greedy_stuck k (l.erase i) (L.filter fun y => y != g.getD i 0) (by rw [List.length_erase_of_mem hi, hlen]; rfl) (hn.erase i) (fun x => by
        rw [List.mem_filter, hL, bne_iff_ne]
        constructor
        · rintro ⟨⟨j, hj, q⟩, z⟩
          exact ⟨j, (hn.mem_erase_iff).mpr ⟨fun e => z (by rw [← q, e]), hj⟩, q⟩
        · rintro ⟨j, hj, q⟩
          obtain ⟨h1, h2⟩ := (hn.mem_erase_iff).mp hj
          exact ⟨⟨j, h2, q⟩, fun e => h1 (hinj j h2 i hi (q.trans e))⟩) (fun a ha b hb => hinj a (List.mem_of_mem_erase ha) b (List.mem_of_mem_erase hb)) (by
          have h2 : (greedy w g k (l.erase i) (L.filter fun y => y != g.getD i 0)).map (fun r => i :: r) = none := h'
          exact Option.map_eq_none_iff.mp h2)
      exact ⟨l', L', a, b, fun j hj => List.mem_of_mem_erase (c j hj), d⟩
theorem perm_of_same {a b : List Nat} (ha : a.Nodup) (hb : b.Nodup) (h : ∀ x, x ∈ a ↔ x ∈ b) : a.Perm b := (List.perm_ext_iff_of_nodup ha hb).mpr fun x => h x
theorem map_range_self {n : Nat} {g : List Nat} (hg : g.length = n) : (List.range n).map (fun i => g.getD i 0) = g :=
  ext_getD (by rw [List.length_map, List.length_range, hg]) fun i hi => by
    rw [List.length_map, List.length_range] at hi
    rw [getD_map_range hi]
theorem Each.perm {n : Nat} {g : List Nat} (hg : Each n g) : g.Perm (List.range n) := perm_of_same hg.nodup List.nodup_range fun x => by rw [List.mem_range]; exact ⟨hg.lt x, hg.all x⟩
theorem perm_Each {n : Nat} {g : List Nat} (h : g.Perm (List.range n)) : Each n g := ⟨by rw [h.length_eq, List.length_range], fun x hx => h.mem_iff.mpr (List.mem_range.mpr hx), h.nodup_iff.mpr List.nodup_range, fun x hx => List.mem_range.mp (h.mem_iff.mp hx)⟩
/-- a ring of people each of whom would rather have the next one's thing -/
theorem ring_better {n : Nat} {w : Wishes} {g r : List Nat} {f : Nat → Nat} (hg : Each n g) (hr : r ≠ []) (hn : r.Nodup) (hlt : ∀ i ∈ r, i < n) (hf : (r.map f).Perm r) (hd : ∀ i ∈ r, rank w i (g.getD (f i) 0) < rank w i (g.getD i 0)) :
    ∃ h ∈ orders n (List.range n), isBetter n w g h = true := by
  have p1 : (List.range n).Perm (r ++ (List.range n).filter fun i => !r.contains i) := by
    refine perm_of_same List.nodup_range ?_ fun x => ?_
    · refine List.nodup_append.mpr ⟨hn, List.nodup_range.sublist List.filter_sublist, fun a ha b hb e => ?_⟩
      have := (List.mem_filter.mp hb).2
      rw [← e, List.contains_iff_mem.mpr ha] at this
      cases this
    · rw [List.mem_append, List.mem_filter, List.mem_range]
      constructor
      · intro hx
        by_cases c : x ∈ r
        · exact .inl c
        · refine .inr ⟨hx, ?_⟩
          cases q : r.contains x
          · rfl
          · exact absurd (List.contains_iff_mem.mp q) c
      · rintro (q | q)
        · exact hlt x q
        · exact q.1
  have p2 : ((List.range n).map fun i => if i ∈ r then f i else i).Perm (List.range n) := by
    refine (p1.map _).trans ?_
    rw [List.map_append]
    have e1 : (r.map fun i => if i ∈ r then f i else i) = r.map f := List.map_congr_left fun i hi => if_pos hi
    have e2 : (((List.range n).filter fun i => !r.contains i).map fun i => if i ∈ r then f i else i) = (List.range n).filter fun i => !r.contains i := by
      conv => rhs; rw [← List.map_id ((List.range n).filter fun i => !r.contains i)]
      refine List.map_congr_left fun i hi => ?_
      have := (List.mem_filter.mp hi).2
      rw [if_neg fun q => by rw [List.contains_iff_mem.mpr q] at this; cases this]
      rfl
    rw [e1, e2]
    exact (hf.append_right _).trans p1.symm
  have p3 : (((List.range n).map fun i => if i ∈ r then f i else i).map fun i => g.getD i 0).Perm (List.range n) := (p2.map fun i => g.getD i 0).trans (by rw [map_range_self hg.len]; exact hg.perm)
  rw [List.map_map] at p3
  refine ⟨_, (mem_orders n _ _ List.length_range).mpr p3, isBetter_iff.mpr ⟨fun i hi => ?_, ?_⟩⟩
  · rw [getD_map_range hi]
    show rank w i (g.getD (if i ∈ r then f i else i) 0) ≤ _
    by_cases c : i ∈ r
    · rw [if_pos c]
      exact Nat.le_of_lt (hd i c)
    · rw [if_neg c]
      exact Nat.le_refl _
  · obtain ⟨i, hi⟩ := List.exists_mem_of_ne_nil r hr
    refine ⟨i, hlt i hi, ?_⟩
    rw [getD_map_range (hlt i hi)]
    show rank w i (g.getD (if i ∈ r then f i else i) 0) < _
    rw [if_pos hi]
    exact hd i hi
theorem dearest_congr {w : Wishes} {i : Nat} {L L' : List Nat} (h : ∀ x, x ∈ L ↔ x ∈ L') : dearest w i L = dearest w i L' := by
  unfold dearest
  have : (fun x => L.contains x) = fun x => L'.contains x := by
    funext x
    rw [Bool.eq_iff_iff, List.contains_iff_mem, List.contains_iff_mem]
    exact h x
  rw [this]
theorem IsRing.perm {f : List Nat → Nat → Nat} {L r : List Nat} (h : IsRing f L r) : ∃ r' : List Nat, r' ≠ [] ∧ r'.Nodup ∧ (∀ i ∈ r', i ∈ L) ∧ (r'.map (f L)).Perm r' := by
  obtain ⟨i0, hi0⟩ := h.ne
  -- r without doubles
  have hm : ∀ x, x ∈ ((List.range (r.foldr max 0 + 1)).filter fun i => r.contains i) ↔ x ∈ r := by
    intro x
    rw [List.mem_filter, List.mem_range, List.contains_iff_mem]
    refine ⟨fun q => q.2, fun q => ⟨?_, q⟩⟩
    have : ∀ l : List Nat, x ∈ l → x ≤ l.foldr max 0 := by
      intro l
      induction l with
      | nil => intro q; exact absurd q List.not_mem_nil
      | cons a t ih =>
        intro q
        rw [List.foldr_cons]
        rcases List.mem_cons.mp q with e | e
        · rw [e]; exact Nat.le_max_left ..
        · exact Nat.le_trans (ih e) (Nat.le_max_right ..)
    exact Nat.lt_succ_of_le (this r q)
  refine ⟨(List.range (r.foldr max 0 + 1)).filter fun i => r.contains i, List.ne_nil_of_mem ((hm i0).mpr hi0), List.nodup_range.sublist List.filter_sublist, fun i hi => h.sub i ((hm i).mp hi), ?_⟩
  have hnd : ((List.range (r.foldr max 0 + 1)).filter fun i => r.contains i).Nodup := List.nodup_range.sublist List.filter_sublist
  generalize ((List.range (r.foldr max 0 + 1)).filter fun i => r.contains i) = r' at hm hnd
  have hs : ∀ x ∈ r', x ∈ r'.map (f L) := fun x hx => by
    have hx' := (hm x).mp hx
    obtain ⟨m, e⟩ := h.reach _ (h.closed x hx') x hx'
    have e2 : f L (steps (f L) m x) = x := by
      have e3 := (steps_succ (f L) m x).symm
      exact e3.trans e
    exact List.mem_map.mpr ⟨_, (hm _).mpr (steps_in h.closed m x hx'), e2⟩
  obtain ⟨a, b⟩ := nodup_of_len (l := r'.map (f L)) (m := r') hnd hs (by rw [List.length_map]; exact Nat.le_refl _)
  exact perm_of_same a hnd fun x => ⟨b x, hs x⟩
theorem goodB_order {s : Abs} {g : List Nat} (hw : RightW s.n s.wishes) (hg : Each s.n g) : goodB s g = (orderB s g).isSome := by
  rw [orderB_greedy hw hg]
  unfold goodB
  rw [Bool.eq_iff_iff, Bool.not_eq_true', List.any_eq_false]
  constructor
  · intro hno
    cases q : greedy s.wishes g s.n (List.range s.n) (List.range s.n) with
    | some o => rfl
    | none =>
      exfalso
      obtain ⟨l, L, h1, h2, h3, h4, h5⟩ := greedy_stuck s.n _ _ List.length_range List.nodup_range (fun x => by
        rw [List.mem_range]
        constructor
        · intro hx
          have hin := hg.all x hx
          exact ⟨holder g x, List.mem_range.mpr (by have := holder_lt hin; rw [hg.len] at this; exact this), holder_has hin⟩
        · rintro ⟨j, hj, rfl⟩
          exact hg.lt _ (getD_mem (by rw [hg.len]; exact List.mem_range.mp hj))) (fun i hi j hj e => getD_inj hg.nodup (by rw [hg.len]; exact List.mem_range.mp hi) (by rw [hg.len]; exact List.mem_range.mp hj) e) q
      have hl : ∀ j ∈ l, j < s.n := fun j hj => List.mem_range.mp (h3 j hj)
      obtain ⟨a, ha⟩ := List.exists_mem_of_ne_nil l h1
      have LK := looks_Looks hw hg
      have hr : ∃ r, IsRing (looks s.wishes g) l r := by
        obtain ⟨i, j, hij, _, e⟩ := meet (LK.mem l hl) ha
        exact ⟨_, trail_ring (LK.mem l hl) ha hij e⟩
      obtain ⟨r, hr⟩ := hr
      obtain ⟨r', a1, a2, a3, a4⟩ := hr.perm
      obtain ⟨h, b1, b2⟩ := ring_better hg a1 a2 (fun i hi => hl i (a3 i hi)) a4 (w := s.wishes) (fun i hi => by
        have hil := a3 i hi
        have hin := hl i hil
        have e1 : dearest s.wishes i (l.map fun j => g.getD j 0) = dearest s.wishes i L := dearest_congr fun x => by rw [h4, List.mem_map]
        have own : g.getD i 0 ∈ L := (h4 _).mpr ⟨i, hil, rfl⟩
        have gin : g.getD i 0 < s.n := hg.lt _ (getD_mem (by rw [hg.len]; exact hin))
        have hdn : dearest s.wishes i L < s.n := by
          obtain ⟨e, _⟩ := dearest_find hw hin ⟨_, own, gin⟩
          exact (hw.2 i hin).lt _ (List.mem_of_find?_eq_some e)
        have e2 : g.getD (looks s.wishes g l i) 0 = dearest s.wishes i L := by
          unfold looks
          rw [e1]
          exact holder_has (hg.all _ hdn)
        rw [e2]
        refine Nat.lt_of_le_of_ne (rank_dearest hw hin own gin) fun e => h5 i hil (rank_inj hw hin hdn gin e))
      exact hno h b1 b2
  · intro hs h hh hb
    have hord : ((orders s.n (List.range s.n)).find? fun o => comes s.wishes g o (List.range s.n)).isSome := by
      rw [find_orders hw hg s.n (List.range s.n) (List.range s.n) List.length_range List.nodup_range (fun j hj => List.mem_range.mp hj) (fun j hj => List.mem_range.mpr (hg.lt _ (getD_mem (by rw [hg.len]; exact List.mem_range.mp hj))))]
      exact hs
    obtain ⟨o, ho⟩ := Option.isSome_iff_exists.mp hord
    have hp := (mem_orders _ _ _ List.length_range).mp (List.mem_of_find?_eq_some ho)
    have hE := perm_Each ((mem_orders _ _ _ List.length_range).mp hh)
    have hco : comes s.wishes g o (List.range s.n) = true := List.find?_some (p := fun o => comes s.wishes g o (List.range s.n)) ho
    obtain ⟨b1, i, b2, b3⟩ := isBetter_iff.mp hb
    have := comes_best hw hg hE b1 o _ (hp.nodup_iff.mpr List.nodup_range) (fun j hj => List.mem_range.mp (hp.mem_iff.mp hj)) (fun j hj => List.mem_range.mpr (hE.lt _ (getD_mem (by rw [hE.len]; exact List.mem_range.mp (hp.mem_iff.mp hj))))) hco i (hp.mem_iff.mpr (List.mem_range.mpr b2))
    rw [this] at b3
    exact Nat.lt_irrefl _ b3
end My
namespace My
open Rc57

/-! ### led to -/
/-- whom one comes to from start, look by look, among those who are there -/
inductive Led (E : Nat → List Nat) (T : Nat → Bool) (start : List Nat) : Nat → Prop where
  | base {x : Nat} : x ∈ start → T x = true → Led E T start x
  | step {x y : Nat} : Led E T start x → y ∈ E x → T y = true → Led E T start y
/-- a way: each but the last looks at the next -/
def Way (E : Nat → List Nat) : List Nat → Prop
  | [] => True
  | [_] => True
  | a :: b :: r => b ∈ E a ∧ Way E (b :: r)
theorem Way.snoc {E : Nat → List Nat} {y : Nat} : ∀ (l : List Nat) (x : Nat), Way E (l ++ [x]) → y ∈ E x → Way E (l ++ [x] ++ [y])
  | [], x, _, h => ⟨h, trivial⟩
  | [a], x, h, h2 => ⟨h.1, Way.snoc [] x h.2 h2⟩
  | a :: b :: r, x, h, h2 => ⟨h.1, Way.snoc (b :: r) x h.2 h2⟩
theorem Way.take {E : Nat → List Nat} : ∀ (l m : List Nat), Way E (l ++ m) → Way E l
  | [], _, _ => trivial
  | [a], _, _ => trivial
  | a :: b :: r, m, h => ⟨h.1, Way.take (b :: r) m h.2⟩
/-- one comes to it by a way on which nobody comes twice -/
theorem Led.way {E : Nat → List Nat} {T : Nat → Bool} {start : List Nat} {p : Nat} (h : Led E T start p) : ∃ (l : List Nat) (s : Nat), (l ++ [p]).Nodup ∧ Way E (l ++ [p]) ∧ (l ++ [p]).head? = some s ∧ s ∈ start ∧ ∀ x ∈ l ++ [p], T x = true := by
  induction h with
  | @base x h1 h2 =>
    exact ⟨[], x, List.nodup_cons.mpr ⟨List.not_mem_nil, List.nodup_nil⟩, trivial, rfl, h1, fun y hy => by rw [List.mem_singleton.mp hy]; exact h2⟩
  | @step x y _ h1 h2 ih =>
    obtain ⟨l, s, a1, a2, a3, a4, a5⟩ := ih
    by_cases c : y ∈ l ++ [x]
    · obtain ⟨u, v, e⟩ := List.append_of_mem c
      have e2 : l ++ [x] = (u ++ [y]) ++ v := by rw [e, List.append_assoc]; rfl
      rw [e2] at a1 a2 a3 a5
      refine ⟨u, s, (List.nodup_append.mp a1).1, Way.take _ _ a2, ?_, a4, fun z hz => a5 z (List.mem_append_left _ hz)⟩
      cases u <;> exact a3
    · refine ⟨l ++ [x], s, ?_, Way.snoc l x a2 h1, ?_, a4, fun z hz => ?_⟩
      · refine List.nodup_append.mpr ⟨a1, List.nodup_cons.mpr ⟨List.not_mem_nil, List.nodup_nil⟩, fun a ha b hb e => c ?_⟩
        rw [← List.mem_singleton.mp hb, ← e]
        exact ha
      · cases l <;> exact a3
      · rcases List.mem_append.mp hz with q | q
        · exact a5 z q
        · rw [List.mem_singleton.mp q]; exact h2
/-- the next of a list behind one of it -/
def nextOf : List Nat → Nat → Nat → Nat
  | [], s, _ => s
  | [_], s, _ => s
  | a :: b :: r, s, i => if i = a then b else nextOf (b :: r) s i
theorem nextOf_map (s : Nat) : ∀ (l : List Nat), l.Nodup → l ≠ [] → l.map (nextOf l s) = l.tail ++ [s]
  | [], _, h => absurd rfl h
  | [a], _, _ => rfl
  | a :: b :: r, hn, _ => by
    obtain ⟨h1, h2⟩ := List.nodup_cons.mp hn
    have ih := nextOf_map s (b :: r) h2 (by intro q; cases q)
    rw [List.map_cons]
    have e1 : nextOf (a :: b :: r) s a = b := if_pos rfl
    have e2 : (b :: r).map (nextOf (a :: b :: r) s) = (b :: r).map (nextOf (b :: r) s) := List.map_congr_left fun i hi => if_neg fun (e : i = a) => h1 (e ▸ hi)
    rw [e1, e2, ih]
    rfl
theorem nextOf_way {E : Nat → List Nat} (s : Nat) : ∀ (l : List Nat) (p : Nat), (l ++ [p]).Nodup → Way E (l ++ [p]) → (∀ i ∈ l, nextOf (l ++ [p]) s i ∈ E i) ∧ nextOf (l ++ [p]) s p = s
  | [], p, _, _ => ⟨fun i hi => absurd hi List.not_mem_nil, rfl⟩
  | [a], p, hn, hw => by
    refine ⟨fun i hi => ?_, ?_⟩
    · rw [List.mem_singleton.mp hi]
      show (if a = a then p else _) ∈ E a
      rw [if_pos rfl]
      exact hw.1
    · have : p ≠ a := fun e => (List.nodup_cons.mp hn).1 (by rw [e]; exact List.mem_cons_self ..)
      show (if p = a then p else _) = s
      rw [if_neg this]
      rfl
  | a :: b :: r, p, hn, hw => by
    obtain ⟨h1, h2⟩ := List.nodup_cons.mp hn
    obtain ⟨i1, i2⟩ := nextOf_way (E := E) s (b :: r) p h2 hw.2
    refine ⟨fun i hi => ?_, ?_⟩
    · show (if i = a then b else nextOf (b :: r ++ [p]) s i) ∈ E i
      by_cases c : i = a
      · rw [if_pos c, c]; exact hw.1
      · rw [if_neg c]
        exact i1 i ((List.mem_cons.mp hi).resolve_left c)
    · show (if p = a then b else nextOf (b :: r ++ [p]) s p) = s
      rw [if_neg fun e => h1 (by rw [← e]; exact List.mem_append_right _ (List.mem_singleton.mpr rfl))]
      exact i2
/-- a ring through p, whose look out of p is one of start -/
theorem Led.ring {E : Nat → List Nat} {T : Nat → Bool} {start : List Nat} {p : Nat} (h : Led E T start p) : ∃ (r : List Nat) (f : Nat → Nat), r.Nodup ∧ p ∈ r ∧ (r.map f).Perm r ∧ (∀ i ∈ r, i ≠ p → f i ∈ E i) ∧ f p ∈ start ∧ ∀ i ∈ r, T i = true := by
  obtain ⟨l, s, a1, a2, a3, a4, a5⟩ := h.way
  obtain ⟨b1, b2⟩ := nextOf_way s l p a1 a2
  refine ⟨l ++ [p], nextOf (l ++ [p]) s, a1, List.mem_append_right _ (List.mem_singleton.mpr rfl), ?_, fun i hi hne => ?_, by rw [b2]; exact a4, a5⟩
  · rw [nextOf_map s _ a1 (by intro q; have := congrArg List.length q; rw [List.length_append] at this; cases this)]
    have : l ++ [p] = s :: (l ++ [p]).tail := by
      cases l with
      | nil => cases Option.some.inj a3; rfl
      | cons a t => cases Option.some.inj a3; rfl
    conv => rhs; rw [this]
    exact List.perm_append_comm
  · rcases List.mem_append.mp hi with q | q
    · exact b1 i q
    · exact absurd (List.mem_singleton.mp q) hne

/-! ### a set of people as a number -/
def bits (l : List Nat) : Nat := l.foldr (fun i a => 2 ^ i ||| a) 0
theorem bits_test (l : List Nat) (i : Nat) : (bits l).testBit i = l.contains i := by
  induction l with
  | nil => exact Nat.zero_testBit i
  | cons a t ih =>
    show (2 ^ a ||| bits t).testBit i = _
    rw [Nat.testBit_or, ih, List.contains_cons, Nat.testBit_two_pow]
    congr 1
    rw [Bool.eq_iff_iff, decide_eq_true_iff, beq_iff_eq]
    exact ⟨fun h => h.symm, fun h => h.symm⟩
theorem bits_lt {l : List Nat} {n : Nat} (h : ∀ x ∈ l, x < n) : bits l < 2 ^ n := by
  refine Nat.lt_pow_two_of_testBit _ fun i hi => ?_
  rw [bits_test]
  cases q : l.contains i
  · rfl
  · have := h i (List.contains_iff_mem.mp q)
    omega
theorem le_of_bits {a b : Nat} (h : ∀ i, a.testBit i = true → b.testBit i = true) : a ≤ b := by
  have : a &&& b = a := Nat.eq_of_testBit_eq fun i => by
    rw [Nat.testBit_and]
    cases q : a.testBit i
    · rfl
    · rw [h i q]; rfl
  rw [← this]
  exact Nat.and_le_right
theorem lt_of_bits : ∀ (p a b : Nat), (∀ i, p < i → a.testBit i = true → b.testBit i = true) → a.testBit p = false → b.testBit p = true → a < b
  | 0, a, b, h, h1, h2 => by
    rw [Nat.testBit_zero, decide_eq_false_iff_not] at h1
    rw [Nat.testBit_zero, decide_eq_true_iff] at h2
    have : a / 2 ≤ b / 2 := le_of_bits fun i q => by
      rw [← Nat.testBit_succ] at q ⊢
      exact h (i + 1) (Nat.succ_pos i) q
    omega
  | p + 1, a, b, h, h1, h2 => by
    rw [Nat.testBit_succ] at h1 h2
    have := lt_of_bits p (a / 2) (b / 2) (fun i hi q => by
      rw [← Nat.testBit_succ] at q ⊢
      exact h (i + 1) (by omega) q) h1 h2
    omega

/-! ### whom one looks at, who may give one as much -/
def lookE (w : Wishes) (own g : List Nat) (i : Nat) : List Nat := ((orderOf w i).take (rank w i (g.getD i 0) + 1)).map (holder own)
def lookS (w : Wishes) (own g : List Nat) (i : Nat) : List Nat := ((orderOf w i).take (rank w i (g.getD i 0))).map (holder own)
theorem mem_take_iff {q : List Nat} (hq : q.Nodup) {x m : Nat} (hx : x ∈ q) : x ∈ q.take m ↔ holder q x < m := by
  constructor
  · intro h
    obtain ⟨j, hj⟩ := List.mem_iff_getElem?.mp h
    rw [List.getElem?_take] at hj
    by_cases c : j < m
    · rw [if_pos c] at hj
      have hl := (List.getElem?_eq_some_iff.mp hj).1
      have e : q.getD j 0 = x := by rw [List.getD_eq_getElem?_getD, hj]; rfl
      rw [← e, holder_own hq hl]
      exact c
    · rw [if_neg c] at hj
      cases hj
  · intro h
    have h1 := holder_lt hx
    have h2 := holder_has hx
    rw [getD_of_lt h1] at h2
    refine List.mem_iff_getElem?.mpr ⟨holder q x, ?_⟩
    rw [List.getElem?_take, if_pos h, List.getElem?_eq_getElem h1, h2]
section
variable {n : Nat} {w : Wishes} {own g : List Nat}
theorem mem_look (hw : RightW n w) (ho : Each n own) {i : Nat} (hi : i < n) {j m : Nat} : j ∈ ((orderOf w i).take m).map (holder own) ↔ j < n ∧ rank w i (own.getD j 0) < m := by
  have EW := hw.2 i hi
  rw [List.mem_map]
  constructor
  · rintro ⟨x, hx, rfl⟩
    have hx2 := List.mem_of_mem_take hx
    have hin := ho.all x (EW.lt x hx2)
    have := holder_lt hin
    rw [ho.len] at this
    refine ⟨this, ?_⟩
    rw [holder_has hin]
    exact (mem_take_iff EW.nodup hx2).mp hx
  · rintro ⟨hj, hr⟩
    have hx : own.getD j 0 ∈ orderOf w i := EW.all _ (ho.lt _ (getD_mem (by rw [ho.len]; exact hj)))
    exact ⟨own.getD j 0, (mem_take_iff EW.nodup hx).mpr hr, holder_own ho.nodup (by rw [ho.len]; exact hj)⟩
theorem mem_lookE (hw : RightW n w) (ho : Each n own) {i : Nat} (hi : i < n) {j : Nat} : j ∈ lookE w own g i ↔ j < n ∧ rank w i (own.getD j 0) ≤ rank w i (g.getD i 0) := by
  unfold lookE
  rw [mem_look hw ho hi, Nat.lt_succ_iff]
theorem mem_lookS (hw : RightW n w) (ho : Each n own) {i : Nat} (hi : i < n) {j : Nat} : j ∈ lookS w own g i ↔ j < n ∧ rank w i (own.getD j 0) < rank w i (g.getD i 0) := by
  unfold lookS
  rw [mem_look hw ho hi]
theorem blocks_iff {k : Nat} : blocks n w own g k = true ↔ ∃ h : List Nat, h.Perm (((List.range n).filter fun i => k.testBit i).map fun i => own.getD i 0) ∧
    (∀ x ∈ ((List.range n).filter fun i => k.testBit i).zip h, rank w x.1 x.2 ≤ rank w x.1 (g.getD x.1 0)) ∧ ∃ x ∈ ((List.range n).filter fun i => k.testBit i).zip h, rank w x.1 x.2 < rank w x.1 (g.getD x.1 0) := by
  unfold blocks
  show ((orders _ _).any fun (h : List Nat) => _) = true ↔ _
  rw [List.any_eq_true]
  constructor
  · rintro ⟨h, h1, h2⟩
    rw [Bool.and_eq_true, List.all_eq_true, List.any_eq_true] at h2
    obtain ⟨x, h3, h4⟩ := h2.2
    exact ⟨h, (mem_orders _ _ _ (List.length_map ..)).mp h1, fun x hx => of_decide_eq_true (h2.1 x hx), x, h3, of_decide_eq_true h4⟩
  · rintro ⟨h, h1, h2, x, h3, h4⟩
    refine ⟨h, (mem_orders _ _ _ (List.length_map ..)).mpr h1, ?_⟩
    rw [Bool.and_eq_true, List.all_eq_true, List.any_eq_true]
    exact ⟨fun x hx => decide_eq_true (h2 x hx), x, h3, decide_eq_true h4⟩
/-- some group of those who are there does better -/
theorem led_blocks (hw : RightW n w) (ho : Each n own) {T : Nat → Bool} {p : Nat} (hp : p < n) (h : Led (lookE w own g) T (lookS w own g p) p) : ∃ k, k < 2 ^ n ∧ (∀ i, k.testBit i = true → T i = true) ∧ blocks n w own g k = true := by
  obtain ⟨r, f, a1, a2, a3, a4, a5, a6⟩ := h.ring
  have hst := (mem_lookS (g := g) hw ho hp).mp a5
  -- all of the ring are people
  have hpn : ∀ i ∈ r, i < n := by
    intro i hi
    obtain ⟨j, hj, e⟩ := List.mem_map.mp (a3.mem_iff.mpr hi)
    by_cases c : j = p
    · rw [← e, c]; exact hst.1
    · -- j is in the ring; its look is there only if it's a person
      have := a4 j hj c
      rw [← e]
      unfold lookE at this
      obtain ⟨x, hx, e2⟩ := List.mem_map.mp this
      have hxo := List.mem_of_mem_take hx
      rw [← e2]
      by_cases q : j < n
      · have hin := ho.all x ((hw.2 j q).lt x hxo)
        have := holder_lt hin
        rw [ho.len] at this
        exact this
      · have : orderOf w j = [] := by
          unfold orderOf
          rw [List.getD_eq_getElem?_getD, List.getElem?_eq_none (by rw [hw.1]; omega)]
          rfl
        rw [this] at hxo
        exact absurd hxo List.not_mem_nil
  refine ⟨bits r, bits_lt hpn, fun i hi => ?_, ?_⟩
  · rw [bits_test] at hi
    exact a6 i (List.contains_iff_mem.mp hi)
  · rw [blocks_iff]
    have hu : ((List.range n).filter fun i => (bits r).testBit i).Perm r := by
      refine perm_of_same (List.nodup_range.sublist List.filter_sublist) a1 fun x => ?_
      rw [List.mem_filter, bits_test, List.contains_iff_mem, List.mem_range]
      exact ⟨fun q => q.2, fun q => ⟨hpn x q, q⟩⟩
    generalize ((List.range n).filter fun i => (bits r).testBit i) = us at hu
    refine ⟨us.map fun i => own.getD (f i) 0, ?_, ?_, ?_⟩
    · have e : us.map (fun i => own.getD (f i) 0) = (us.map f).map fun i => own.getD i 0 := by rw [List.map_map]; rfl
      rw [e]
      exact ((hu.map f).trans (a3.trans hu.symm)).map _
    · rw [← List.map_prod_left_eq_zip]
      intro x hx
      obtain ⟨i, hi, rfl⟩ := List.mem_map.mp hx
      have hir := hu.mem_iff.mp hi
      by_cases c : i = p
      · rw [c]
        exact Nat.le_of_lt hst.2
      · exact ((mem_lookE (g := g) hw ho (hpn i hir)).mp (a4 i hir c)).2
    · rw [← List.map_prod_left_eq_zip]
      exact ⟨_, List.mem_map.mpr ⟨p, hu.mem_iff.mpr a2, rfl⟩, hst.2⟩
theorem blocks_led (hw : RightW n w) (ho : Each n own) {T : Nat → Bool} {k : Nat} (hT : ∀ i, i < n → k.testBit i = true → T i = true) (h : blocks n w own g k = true) : ∃ p, p < n ∧ Led (lookE w own g) T (lookS w own g p) p := by
  obtain ⟨h, hp, h1, x, hx, h2⟩ := blocks_iff.mp h
  have hun : ((List.range n).filter fun i => k.testBit i).Nodup := List.nodup_range.sublist List.filter_sublist
  have hum : ∀ i ∈ ((List.range n).filter fun i => k.testBit i), i < n ∧ T i = true := fun i hi => by
    obtain ⟨a, b⟩ := List.mem_filter.mp hi
    exact ⟨List.mem_range.mp a, hT i (List.mem_range.mp a) b⟩
  generalize ((List.range n).filter fun i => k.testBit i) = us at hp h1 hx hun hum
  have hl : h.length = us.length := by rw [hp.length_eq, List.length_map]
  -- what each is given
  have hh : h = us.map fun i => h.getD (holder us i) 0 := by
    refine ext_getD (by rw [List.length_map, hl]) fun j hj => ?_
    have hj' : j < us.length := by omega
    have : (us.map fun i => h.getD (holder us i) 0).getD j 0 = h.getD (holder us (us.getD j 0)) 0 := by
      rw [List.getD_eq_getElem?_getD, List.getElem?_map, List.getElem?_eq_getElem hj', getD_of_lt hj']
      rfl
    rw [this, holder_own hun hj']
  generalize (fun i => h.getD (holder us i) 0) = φ at hh
  subst hh
  rw [← List.map_prod_left_eq_zip] at h1 hx
  obtain ⟨p, hpu, rfl⟩ := List.mem_map.mp hx
  have own_inj : ∀ a ∈ us, ∀ b ∈ us, own.getD a 0 = own.getD b 0 → a = b := fun a ha b hb e => getD_inj ho.nodup (by rw [ho.len]; exact (hum a ha).1) (by rw [ho.len]; exact (hum b hb).1) e
  have hσ : ∀ i ∈ us, ∃ j ∈ us, own.getD j 0 = φ i := fun i hi => by
    obtain ⟨j, hj, e⟩ := List.mem_map.mp (hp.mem_iff.mp (List.mem_map.mpr ⟨i, hi, rfl⟩))
    exact ⟨j, hj, e⟩
  have hσ' : ∀ i ∈ us, holder own (φ i) ∈ us ∧ own.getD (holder own (φ i)) 0 = φ i := fun i hi => by
    obtain ⟨j, hj, e⟩ := hσ i hi
    have : holder own (φ i) = j := by rw [← e, holder_own ho.nodup (by rw [ho.len]; exact (hum j hj).1)]
    rw [this]
    exact ⟨hj, e⟩
  have hmn : (us.map fun i => own.getD i 0).Nodup := by
    rw [List.nodup_iff_pairwise_ne, List.pairwise_map]
    refine List.Pairwise.imp_of_mem ?_ (List.nodup_iff_pairwise_ne.mp hun)
    intro a b ha hb hne e
    exact hne (own_inj a ha b hb e)
  have hpn : (us.map φ).Nodup := hp.nodup_iff.mpr hmn
  have φ_inj : ∀ a ∈ us, ∀ b ∈ us, φ a = φ b → a = b := by
    intro a ha b hb e
    obtain ⟨i, hi⟩ := List.mem_iff_getElem?.mp ha
    obtain ⟨j, hj⟩ := List.mem_iff_getElem?.mp hb
    have li := (List.getElem?_eq_some_iff.mp hi).1
    have lj := (List.getElem?_eq_some_iff.mp hj).1
    have ei : (us.map φ).getD i 0 = φ a := by rw [List.getD_eq_getElem?_getD, List.getElem?_map, hi]; rfl
    have ej : (us.map φ).getD j 0 = φ b := by rw [List.getD_eq_getElem?_getD, List.getElem?_map, hj]; rfl
    have := getD_inj hpn (by rw [List.length_map]; exact li) (by rw [List.length_map]; exact lj) (by rw [ei, ej, e])
    subst this
    rw [hi] at hj
    exact Option.some.inj hj
  refine ⟨p, (hum p hpu).1, ?_⟩
  -- those whom one comes to are closed
  have hcl : ∀ i ∈ us, Led (lookE w own g) T (lookS w own g p) i → Led (lookE w own g) T (lookS w own g p) (holder own (φ i)) := fun i hi hL => by
    obtain ⟨a, b⟩ := hσ' i hi
    refine .step hL ((mem_lookE hw ho (hum i hi).1).mpr ⟨(hum _ a).1, ?_⟩) (hum _ a).2
    rw [b]
    exact h1 (i, φ i) (List.mem_map.mpr ⟨i, hi, rfl⟩)
  obtain ⟨a, b⟩ := hσ' p hpu
  have hst : Led (lookE w own g) T (lookS w own g p) (holder own (φ p)) := .base ((mem_lookS hw ho (hum p hpu).1).mpr ⟨(hum _ a).1, by rw [b]; exact h2⟩) (hum _ a).2
  classical
  have hD : ∀ x, x ∈ (us.filter fun i => decide (Led (lookE w own g) T (lookS w own g p) i)) ↔ x ∈ us ∧ Led (lookE w own g) T (lookS w own g p) x := fun x => by
    rw [List.mem_filter, decide_eq_true_iff]
  have hDn : (us.filter fun i => decide (Led (lookE w own g) T (lookS w own g p) i)).Nodup := hun.sublist List.filter_sublist
  generalize (us.filter fun i => decide (Led (lookE w own g) T (lookS w own g p) i)) = D at hD hDn
  have hmD : (D.map fun i => holder own (φ i)).Nodup := by
    rw [List.nodup_iff_pairwise_ne, List.pairwise_map]
    refine List.Pairwise.imp_of_mem ?_ (List.nodup_iff_pairwise_ne.mp hDn)
    intro a b ha hb hne e
    have ha' := ((hD a).mp ha).1
    have hb' := ((hD b).mp hb).1
    refine hne (φ_inj a ha' b hb' ?_)
    rw [← (hσ' a ha').2, ← (hσ' b hb').2, e]
  obtain ⟨_, hall⟩ := nodup_of_len (l := D) (m := D.map fun i => holder own (φ i)) hmD (fun x hx => by
    obtain ⟨i, hi, rfl⟩ := List.mem_map.mp hx
    obtain ⟨c, d⟩ := (hD i).mp hi
    exact (hD _).mpr ⟨(hσ' i c).1, hcl i c d⟩) (by rw [List.length_map]; exact Nat.le_refl _)
  obtain ⟨c, hc, e⟩ := List.mem_map.mp (hall _ ((hD _).mpr ⟨a, hst⟩))
  obtain ⟨c1, c2⟩ := (hD c).mp hc
  have : c = p := φ_inj c c1 p hpu (by rw [← (hσ' c c1).2, ← b, e])
  rw [← this]
  rw [← this] at c2
  exact c2
end
end My
namespace My
open Rc57
theorem range_split {n : Nat} {r : List Nat} (hn : r.Nodup) (hlt : ∀ i ∈ r, i < n) : (List.range n).Perm (r ++ (List.range n).filter fun i => !r.contains i) := by
  refine perm_of_same List.nodup_range ?_ fun x => ?_
  · refine List.nodup_append.mpr ⟨hn, List.nodup_range.sublist List.filter_sublist, fun a ha b hb e => ?_⟩
    have := (List.mem_filter.mp hb).2
    rw [← e, List.contains_iff_mem.mpr ha] at this
    cases this
  · rw [List.mem_append, mem_out, List.mem_range]
    constructor
    · intro hx
      by_cases c : x ∈ r
      · exact .inl c
      · exact .inr ⟨hx, c⟩
    · rintro (q | q)
      · exact hlt x q
      · exact q.1
theorem Mask.gone {n : Nat} {left : List Bool} {l : List Nat} (h : Mask n left l) {y : Nat} (hy : y < n) : Mask n (left.set y false) (l.filter fun z => z != y) := by
  refine ⟨by rw [List.length_set]; exact h.len, fun x hx => ?_⟩
  rw [getD_set_bool (by rw [h.len]; exact hy), h.val x hx, Bool.eq_iff_iff, List.contains_iff_mem, List.mem_filter]
  by_cases c : x = y
  · rw [if_pos c]
    constructor
    · intro q; cases q
    · rintro ⟨_, q⟩
      rw [bne_iff_ne] at q
      exact absurd c q
  · rw [if_neg c, List.contains_iff_mem]
    exact ⟨fun q => ⟨q, bne_iff_ne.mpr c⟩, fun q => q.1⟩
/-- the way of first_order -/
structure FirstInv (n : Nat) (w : Wishes) (g : List Nat) (left : List Bool) (o : List Nat) : Prop where
  nd : o.Nodup
  lt : ∀ i ∈ o, i < n
  ex : ∃ L, Mask n left L ∧ (∀ x, x ∈ L ↔ ∃ j, j < n ∧ j ∉ o ∧ g.getD j 0 = x) ∧
    greedy w g n (List.range n) (List.range n) = (greedy w g (n - o.length) ((List.range n).filter fun i => !o.contains i) L).map fun r => o ++ r
theorem FirstInv.start {n : Nat} {w : Wishes} {g : List Nat} (hg : Each n g) : FirstInv n w g (List.replicate n true) [] := by
  refine ⟨List.nodup_nil, fun _ h => absurd h List.not_mem_nil, List.range n, Mask.all n, fun x => ?_, ?_⟩
  · rw [List.mem_range]
    constructor
    · intro hx
      have hin := hg.all x hx
      exact ⟨holder g x, by have := holder_lt hin; rw [hg.len] at this; exact this, List.not_mem_nil, holder_has hin⟩
    · rintro ⟨j, hj, _, rfl⟩
      exact hg.lt _ (getD_mem (by rw [hg.len]; exact hj))
  · have : ((List.range n).filter fun i => !([] : List Nat).contains i) = List.range n := by
      rw [List.filter_eq_self]
      intro x _
      rfl
    rw [this]
    show _ = (greedy w g n _ _).map fun r => r
    cases greedy w g n (List.range n) (List.range n) <;> rfl
theorem FirstInv.few {n : Nat} {w : Wishes} {g o : List Nat} {left : List Bool} (h : FirstInv n w g left o) : o.length + ((List.range n).filter fun i => !o.contains i).length = n := by
  have := (range_split h.nd h.lt).length_eq
  rw [List.length_append, List.length_range] at this
  exact this.symm
theorem FirstInv.llen {n : Nat} {w : Wishes} {g o : List Nat} {left : List Bool} (h : FirstInv n w g left o) : left.length = n := by
  obtain ⟨L, m, _⟩ := h.ex
  exact m.len
theorem FirstInv.done {n : Nat} {w : Wishes} {g o : List Nat} {left : List Bool} (h : FirstInv n w g left o) (hl : ¬ o.length < n) : greedy w g n (List.range n) (List.range n) = some o := by
  obtain ⟨L, _, _, e⟩ := h.ex
  rw [e, show n - o.length = 0 by omega]
  show some (o ++ []) = some o
  rw [List.append_nil]
theorem FirstInv.turn {n : Nat} {w : Wishes} {g o : List Nat} {left : List Bool} (hw : RightW n w) (hg : Each n g) (h : FirstInv n w g left o) (hl : o.length < n) :
    ∃ d : Nat → Nat, (∀ p, p < n → (leftOf (orderOf w p) left)[0]? = some (d p)) ∧ (((List.range n).filter fun p => d p == g.getD p 0) = [] → greedy w g n (List.range n) (List.range n) = none) ∧
      ∀ i, ((List.range n).filter fun p => d p == g.getD p 0)[0]? = some i → i < n ∧ FirstInv n w g (left.set (g.getD i 0) false) (o ++ [i]) := by
  have hfew := h.few
  obtain ⟨hnd, hlt, L, hm, hL, e⟩ := h
  have hne : ∃ x ∈ L, x < n := by
    obtain ⟨j, hj⟩ := List.exists_mem_of_ne_nil ((List.range n).filter fun i => !o.contains i) (fun q => by rw [q, List.length_nil] at hfew; omega)
    obtain ⟨a, b⟩ := mem_out.mp hj
    have a' := List.mem_range.mp a
    exact ⟨g.getD j 0, (hL _).mpr ⟨j, a', b, rfl⟩, hg.lt _ (getD_mem (by rw [hg.len]; exact a'))⟩
  have hd : ∀ p, p < n → (leftOf (orderOf w p) left)[0]? = some (dearest w p L) ∧ dearest w p L ∈ L ∧ dearest w p L < n := fun p hp => leftOf_dearest hw hp hm hne
  -- who is ready is not yet of the order
  have hr : ∀ p, p < n → (dearest w p L == g.getD p 0) = true → p ∉ o := fun p hp q hin => by
    rw [beq_iff_eq] at q
    have h2 := (hd p hp).2.1
    rw [q, hL] at h2
    obtain ⟨j, h3, h4, h5⟩ := h2
    have := getD_inj hg.nodup (by rw [hg.len]; exact h3) (by rw [hg.len]; exact hp) h5
    rw [this] at h4
    exact h4 hin
  have hfind : ((List.range n).filter fun i => !o.contains i).find? (fun i => dearest w i L == g.getD i 0) = ((List.range n).filter fun p => dearest w p L == g.getD p 0)[0]? := by
    rw [List.find?_filter, ← find_filter]
    refine find_congr_mem fun x hx => ?_
    cases q : (dearest w x L == g.getD x 0)
    · exact decide_eq_false fun z => by cases z.2
    · have := hr x (List.mem_range.mp hx) q
      cases z : o.contains x
      · rfl
      · exact absurd (List.contains_iff_mem.mp z) this
  obtain ⟨k, hk⟩ : ∃ k, n - o.length = k + 1 := ⟨n - o.length - 1, by omega⟩
  rw [hk] at e
  have e' : greedy w g n (List.range n) (List.range n) = (match ((List.range n).filter fun i => !o.contains i).find? (fun i => dearest w i L == g.getD i 0) with
    | none => none
    | some i => (greedy w g k (((List.range n).filter fun i => !o.contains i).erase i) (L.filter fun y => y != g.getD i 0)).map fun r => i :: r).map fun r => o ++ r := e
  rw [hfind] at e'
  refine ⟨fun p => dearest w p L, fun p hp => (hd p hp).1, fun q => ?_, fun i hi => ?_⟩
  · rw [q] at e'
    exact e'
  · rw [hi] at e'
    have e'' : greedy w g n (List.range n) (List.range n) = ((greedy w g k (((List.range n).filter fun i => !o.contains i).erase i) (L.filter fun y => y != g.getD i 0)).map fun r => i :: r).map fun r => o ++ r := e'
    have hi2 := List.mem_filter.mp (List.mem_of_getElem? hi)
    have hin := List.mem_range.mp hi2.1
    have hio := hr i hin hi2.2
    have gin : g.getD i 0 < n := hg.lt _ (getD_mem (by rw [hg.len]; exact hin))
    refine ⟨hin, ?_, ?_, L.filter fun y => y != g.getD i 0, hm.gone gin, fun x => ?_, ?_⟩
    · refine List.nodup_append.mpr ⟨hnd, List.nodup_cons.mpr ⟨List.not_mem_nil, List.nodup_nil⟩, fun a ha b hb q => hio ?_⟩
      rw [← List.mem_singleton.mp hb, ← q]
      exact ha
    · intro j hj
      rcases List.mem_append.mp hj with q | q
      · exact hlt j q
      · rw [List.mem_singleton.mp q]; exact hin
    · rw [List.mem_filter, hL, bne_iff_ne]
      constructor
      · rintro ⟨⟨j, a, b, c⟩, d⟩
        refine ⟨j, a, fun q => ?_, c⟩
        rcases List.mem_append.mp q with q | q
        · exact b q
        · rw [List.mem_singleton.mp q] at c
          exact d c.symm
      · rintro ⟨j, a, b, c⟩
        refine ⟨⟨j, a, fun q => b (List.mem_append_left _ q), c⟩, fun q => b (List.mem_append_right _ ?_)⟩
        rw [← c] at q
        exact List.mem_singleton.mpr (getD_inj hg.nodup (by rw [hg.len]; exact a) (by rw [hg.len]; exact hin) q)
    · have e3 : ((List.range n).filter fun i => !o.contains i).erase i = (List.range n).filter fun j => !(o ++ [i]).contains j := by
        have hn2 : ((List.range n).filter fun i => !o.contains i).Nodup := List.nodup_range.sublist List.filter_sublist
        rw [hn2.erase_eq_filter, List.filter_filter]
        refine List.filter_congr fun x _ => ?_
        rw [List.contains_append, Bool.not_or, Bool.and_comm]
        congr 1
        rw [List.contains_cons, List.contains_nil, Bool.or_false]
        rfl
      rw [e'', e3, List.length_append, show n - (o.length + [i].length) = k by rw [List.length_singleton]; omega]
      show (Option.map (fun r => i :: r) _).map (fun r => o ++ r) = _
      rw [Option.map_map]
      congr 1
      funext r
      show o ++ i :: r = o ++ [i] ++ r
      rw [List.append_assoc]
      rfl
end My
namespace My
open Rc57
structure LedInv (n : Nat) (E : Nat → List Nat) (T : Nat → Bool) (start : List Nat) (at_ : Nat) (F : List Nat) : Prop where
  nd : F.Nodup
  lt : ∀ x ∈ F, x < n
  led : ∀ x ∈ F, Led E T start x
  base : ∀ x ∈ start, T x = true → x ∈ F
  closed : ∀ j x, j < at_ → F[j]? = some x → ∀ y ∈ E x, T y = true → y ∈ F
  le : at_ ≤ F.length
theorem LedInv.start {n : Nat} {E : Nat → List Nat} {T : Nat → Bool} {start : List Nat} (h1 : start.Nodup) (h2 : ∀ x ∈ start, x < n) : LedInv n E T start 0 (start.filter T) :=
  ⟨h1.sublist List.filter_sublist, fun x hx => h2 x (List.mem_filter.mp hx).1, fun x hx => .base (List.mem_filter.mp hx).1 (List.mem_filter.mp hx).2, fun x hx hT => List.mem_filter.mpr ⟨hx, hT⟩, fun j x hj => absurd hj (Nat.not_lt_zero _), Nat.zero_le _⟩
theorem LedInv.few {n : Nat} {E : Nat → List Nat} {T : Nat → Bool} {start F : List Nat} {a : Nat} (h : LedInv n E T start a F) : F.length ≤ n := by
  have := len_le_of_sub (l := F) (m := List.range n) h.nd fun x hx => List.mem_range.mpr (h.lt x hx)
  rw [List.length_range] at this
  exact this
theorem LedInv.turn {n : Nat} {E : Nat → List Nat} {T : Nat → Bool} {start F : List Nat} {a x : Nat} (hE : ∀ i, i < n → (E i).Nodup ∧ ∀ y ∈ E i, y < n) (h : LedInv n E T start a F) (hx : F[a]? = some x) :
    x < n ∧ LedInv n E T start (a + 1) (F ++ (E x).filter fun y => T y && !F.contains y) := by
  have hxF := List.mem_of_getElem? hx
  have hxn := h.lt x hxF
  have hal := (List.getElem?_eq_some_iff.mp hx).1
  have key : ∀ y, y ∈ ((E x).filter fun y => T y && !F.contains y) ↔ y ∈ E x ∧ T y = true ∧ y ∉ F := fun y => by
    rw [List.mem_filter, Bool.and_eq_true, Bool.not_eq_true']
    refine and_congr Iff.rfl (and_congr Iff.rfl ⟨fun q z => ?_, fun q => ?_⟩)
    · rw [List.contains_iff_mem.mpr z] at q; cases q
    · cases z : F.contains y
      · rfl
      · exact absurd (List.contains_iff_mem.mp z) q
  refine ⟨hxn, ?_, fun y hy => ?_, fun y hy => ?_, fun y hy hT => List.mem_append_left _ (h.base y hy hT), fun j z hj hz y hy hT => ?_, by rw [List.length_append]; omega⟩
  · refine List.nodup_append.mpr ⟨h.nd, (hE x hxn).1.sublist List.filter_sublist, fun a ha b hb e => ?_⟩
    rw [e] at ha
    exact ((key b).mp hb).2.2 ha
  · rcases List.mem_append.mp hy with q | q
    · exact h.lt y q
    · exact (hE x hxn).2 y ((key y).mp q).1
  · rcases List.mem_append.mp hy with q | q
    · exact h.led y q
    · obtain ⟨a, b, _⟩ := (key y).mp q
      exact .step (h.led x hxF) a b
  · have hjl : j < F.length := by omega
    rw [List.getElem?_append_left hjl] at hz
    by_cases c : j < a
    · exact List.mem_append_left _ (h.closed j z c hz y hy hT)
    · have : j = a := by omega
      subst this
      rw [hx] at hz
      cases hz
      by_cases q : y ∈ F
      · exact List.mem_append_left _ q
      · exact List.mem_append_right _ ((key y).mpr ⟨hy, hT, q⟩)
theorem LedInv.done {n : Nat} {E : Nat → List Nat} {T : Nat → Bool} {start F : List Nat} {a : Nat} (h : LedInv n E T start a F) (ha : ¬ a < F.length) : ∀ x, x ∈ F ↔ Led E T start x := by
  refine fun x => ⟨h.led x, fun q => ?_⟩
  induction q with
  | base h1 h2 => exact h.base _ h1 h2
  | @step z y _ h1 h2 ih =>
    obtain ⟨j, hj⟩ := List.mem_iff_getElem?.mp ih
    exact h.closed j z (by have := (List.getElem?_eq_some_iff.mp hj).1; omega) hj y h1 h2
/-- whether some of them do better by themselves -/
def Better (n : Nat) (E : Nat → List Nat) (T : Nat → Bool) : Prop := ∃ p, p < n ∧ Led E T ((E p).take ((E p).length - 1)) p
section
variable {n : Nat} {w : Wishes} {own g : List Nat}
theorem rank_lt (hw : RightW n w) {i x : Nat} (hi : i < n) (hx : x < n) : rank w i x < n := by
  have := holder_lt ((hw.2 i hi).all x hx)
  rw [(hw.2 i hi).len] at this
  exact this
theorem look_last (hw : RightW n w) (hg : Each n g) {i : Nat} (hi : i < n) : (lookE w own g i).take ((lookE w own g i).length - 1) = lookS w own g i := by
  have hr := rank_lt hw hi (hg.lt _ (getD_mem (by rw [hg.len]; exact hi)))
  have hl : (lookE w own g i).length = rank w i (g.getD i 0) + 1 := by
    unfold lookE
    rw [List.length_map, List.length_take, (hw.2 i hi).len]
    omega
  rw [hl]
  unfold lookE lookS
  rw [← List.map_take, List.take_take]
  congr 2
  omega
theorem look_ok (hw : RightW n w) (ho : Each n own) {i : Nat} (hi : i < n) : (lookE w own g i).Nodup ∧ ∀ y ∈ lookE w own g i, y < n := by
  have EW := hw.2 i hi
  refine ⟨?_, fun y hy => ((mem_lookE (g := g) hw ho hi).mp hy).1⟩
  unfold lookE
  rw [List.nodup_iff_pairwise_ne, List.pairwise_map]
  refine List.Pairwise.imp_of_mem ?_ (List.nodup_iff_pairwise_ne.mp (EW.nodup.sublist (List.take_sublist _ _)))
  intro a b ha hb hne e
  refine hne ?_
  rw [← holder_has (ho.all a (EW.lt a (List.mem_of_mem_take ha))), ← holder_has (ho.all b (EW.lt b (List.mem_of_mem_take hb))), e]
theorem better_iff (hw : RightW n w) (ho : Each n own) (hg : Each n g) {T : Nat → Bool} : Better n (lookE w own g) T ↔ ∃ k, k < 2 ^ n ∧ (∀ i, k.testBit i = true → T i = true) ∧ blocks n w own g k = true := by
  constructor
  · rintro ⟨p, hp, h⟩
    rw [look_last hw hg hp] at h
    exact led_blocks hw ho hp h
  · rintro ⟨k, _, h2, h3⟩
    obtain ⟨p, hp, h⟩ := blocks_led hw ho (T := T) (fun i _ => h2 i) h3
    rw [← look_last hw hg hp] at h
    exact ⟨p, hp, h⟩
theorem bit_lt {k i : Nat} (hk : k < 2 ^ n) (h : k.testBit i = true) : i < n := by
  rcases Nat.lt_or_ge i n with q | q
  · exact q
  · rw [Nat.testBit_lt_two_pow (Nat.lt_of_lt_of_le hk (Nat.pow_le_pow_right (by decide) q))] at h
    cases h
/-- the way of least_group: those at or above j as in k, all others there -/
structure GrpInv (n k j : Nat) (T : List Bool) : Prop where
  len : T.length = n
  val : ∀ i, i < n → T.getD i false = if i < j then true else k.testBit i
theorem GrpInv.start {k : Nat} : GrpInv n k n (List.replicate n true) := by
  refine ⟨List.length_replicate, fun i hi => ?_⟩
  rw [if_pos hi, List.getD_eq_getElem?_getD, List.getElem?_replicate, if_pos hi]
  rfl
theorem GrpInv.turn (hw : RightW n w) (ho : Each n own) (hg : Each n g) {k j : Nat} {T : List Bool} (hk : ((List.range (2 ^ n)).find? fun k => blocks n w own g k) = some k) (h : GrpInv n k (j + 1) T) (hj : j < n) {b : Bool}
    (hb : b = true ↔ Better n (lookE w own g) fun i => (T.set j false).getD i false) : GrpInv n k j ((T.set j false).set j (!b)) := by
  obtain ⟨hk1, hk2, hk3⟩ := List.find?_range_eq_some.mp hk
  have hkn := List.mem_range.mp hk2
  have hjl : j < T.length := by rw [h.len]; exact hj
  have key : b = !k.testBit j := by
    rw [Bool.eq_iff_iff, hb, better_iff hw ho hg, Bool.not_eq_true']
    constructor
    · rintro ⟨k', c1, c2, c3⟩
      cases q : k.testBit j
      · rfl
      · exfalso
        have bit : ∀ i, k'.testBit i = true → i ≠ j ∧ (j < i → k.testBit i = true) := fun i hi => by
          have h2 := c2 i hi
          rw [getD_set_bool hjl] at h2
          refine ⟨fun e => ?_, fun e => ?_⟩
          · rw [if_pos e] at h2; cases h2
          · rw [if_neg (by omega), h.val i (bit_lt c1 hi), if_neg (by omega)] at h2
            exact h2
        have hlt := lt_of_bits j k' k (fun i hi q2 => (bit i q2).2 hi) (by
          cases z : k'.testBit j
          · rfl
          · exact absurd rfl (bit j z).1) q
        have := hk3 k' hlt
        rw [c3] at this
        cases this
    · intro q
      refine ⟨k, hkn, fun i hi => ?_, hk1⟩
      have hin := bit_lt hkn hi
      rw [getD_set_bool hjl, if_neg (fun e => by rw [e, q] at hi; cases hi), h.val i hin]
      by_cases c : i < j + 1
      · rw [if_pos c]
      · rw [if_neg c, hi]
  refine ⟨by rw [List.length_set, List.length_set]; exact h.len, fun i hi => ?_⟩
  rw [getD_set_bool (by rw [List.length_set]; exact hjl)]
  by_cases c : i = j
  · rw [if_pos c, c, if_neg (Nat.lt_irrefl _), key, Bool.not_not]
  · rw [if_neg c, getD_set_bool hjl, if_neg c, h.val i hi]
    by_cases d : i < j
    · rw [if_pos d, if_pos (by omega)]
    · rw [if_neg d, if_neg (by omega)]
/-- the people of the least group -/
def groupOf (n : Nat) (w : Wishes) (own g : List Nat) : List Nat := match (List.range (2 ^ n)).find? fun k => blocks n w own g k with
  | some k => (List.range n).filter fun i => k.testBit i
  | none => []
theorem better_some (hw : RightW n w) (ho : Each n own) (hg : Each n g) : Better n (lookE w own g) (fun i => (List.replicate n true).getD i false) ↔ ∃ k, ((List.range (2 ^ n)).find? fun k => blocks n w own g k) = some k := by
  rw [better_iff hw ho hg]
  constructor
  · rintro ⟨k, h1, _, h2⟩
    cases q : (List.range (2 ^ n)).find? fun k => blocks n w own g k with
    | some k => exact ⟨k, rfl⟩
    | none => exact absurd h2 (List.find?_eq_none.mp q k (List.mem_range.mpr h1))
  · rintro ⟨k, h⟩
    have hk := List.mem_range.mp (List.mem_of_find?_eq_some h)
    refine ⟨k, hk, fun i hi => ?_, List.find?_some h⟩
    rw [List.getD_eq_getElem?_getD, List.getElem?_replicate, if_pos (bit_lt hk hi)]
    rfl
theorem GrpInv.done {k : Nat} {T : List Bool} (h : GrpInv n k 0 T) (hk : ((List.range (2 ^ n)).find? fun k => blocks n w own g k) = some k) : ((List.range n).filter fun i => T.getD i false) = groupOf n w own g := by
  unfold groupOf
  rw [hk]
  exact List.filter_congr fun i hi => by rw [h.val i (List.mem_range.mp hi), if_neg (Nat.not_lt_zero _)]
/-- the number of a group -/
theorem sum_bits (k : Nat) : ∀ n : Nat, (((List.range n).filter fun i => k.testBit i).map fun i => 2 ^ i).sum = k % 2 ^ n
  | 0 => by rw [Nat.pow_zero, Nat.mod_one]; rfl
  | n + 1 => by
    rw [List.range_succ, List.filter_append, List.map_append, List.sum_append, sum_bits k n, Nat.mod_pow_succ]
    congr 1
    rw [List.filter_cons, Nat.testBit_eq_decide_div_mod_eq]
    by_cases c : k / 2 ^ n % 2 = 1
    · rw [if_pos (decide_eq_true c), c]
      show 2 ^ n + 0 = _
      omega
    · have : k / 2 ^ n % 2 = 0 := by omega
      rw [if_neg (by rw [decide_eq_true_iff]; exact c), this]
      rfl
theorem groupB_of {s : Abs} {own g : List Nat} : (match groupB s own g with
    | some k => [1, (k : Int)]
    | none => [0, 0]) = if (groupOf s.n s.wishes own g).isEmpty = true then [0, 0] else [1, ((((groupOf s.n s.wishes own g).map fun i => 2 ^ i).sum : Nat) : Int)] := by
  have e0 : groupB s own g = (List.range (2 ^ s.n)).find? fun k => blocks s.n s.wishes own g k := rfl
  unfold groupOf
  rw [e0]
  cases h : (List.range (2 ^ s.n)).find? fun k => blocks s.n s.wishes own g k with
  | none => rfl
  | some k =>
    have hk := List.mem_range.mp (List.mem_of_find?_eq_some h)
    have hb : blocks s.n s.wishes own g k = true := List.find?_some (p := fun k => blocks s.n s.wishes own g k) h
    obtain ⟨hh, _, _, x, hx, _⟩ := blocks_iff.mp hb
    have hne : ((List.range s.n).filter fun i => k.testBit i) ≠ [] := fun e => by
      rw [e] at hx
      exact absurd hx List.not_mem_nil
    show [1, (k : Int)] = if ((List.range s.n).filter fun i => k.testBit i).isEmpty = true then _ else _
    rw [if_neg (fun e => hne (List.isEmpty_iff.mp e)), sum_bits, Nat.mod_eq_of_lt hk]
end
end My
namespace My
open Rc57
/-! ### sums -/
theorem sum_add {α : Type} (f h : α → Nat) : ∀ l : List α, (l.map fun x => f x + h x).sum = (l.map f).sum + (l.map h).sum
  | [] => rfl
  | a :: l => by
    simp only [List.map_cons, List.sum_cons]
    rw [sum_add f h l]
    omega
theorem sum_mul {α : Type} (f : α → Nat) (e : Nat) : ∀ l : List α, (l.map fun x => f x * e).sum = (l.map f).sum * e
  | [] => (Nat.zero_mul e).symm
  | a :: l => by
    simp only [List.map_cons, List.sum_cons]
    rw [sum_mul f e l, Nat.add_mul]
theorem sum_sub {α : Type} (f h : α → Nat) : ∀ l : List α, (∀ x ∈ l, h x ≤ f x) → (l.map fun x => f x - h x).sum + (l.map h).sum = (l.map f).sum
  | [], _ => rfl
  | a :: l, hl => by
    simp only [List.map_cons, List.sum_cons]
    have h1 := hl a (List.mem_cons_self ..)
    have h2 := sum_sub f h l fun x hx => hl x (List.mem_cons_of_mem _ hx)
    omega
theorem sum_set {x a : Nat} : ∀ {l : List Nat}, x < l.length → (l.set x (l.getD x 0 + a)).sum = l.sum + a := by
  induction x with
  | zero =>
    intro l h
    cases l with
    | nil => exact absurd h (Nat.not_lt_zero _)
    | cons b l =>
      show b + a + l.sum = b + l.sum + a
      omega
  | succ x ih =>
    intro l h
    cases l with
    | nil => exact absurd h (Nat.not_lt_zero _)
    | cons b l =>
      have := ih (l := l) (Nat.lt_of_succ_lt_succ h)
      show b + (l.set x (l.getD x 0 + a)).sum = b + l.sum + a
      omega
theorem sum_one (a : Nat) : ∀ n : Nat, ((List.range n).map fun x => if a == x then 1 else 0).sum = if a < n then 1 else 0
  | 0 => rfl
  | n + 1 => by
    rw [List.range_succ, List.map_append, List.sum_append, sum_one a n]
    show (if a < n then 1 else 0) + ((if (a == n) = true then 1 else 0) + 0) = if a < n + 1 then 1 else 0
    simp only [beq_iff_eq]
    split <;> split <;> split <;> omega
theorem sum_count (n : Nat) : ∀ l : List Nat, (∀ y ∈ l, y < n) → ((List.range n).map fun x => l.count x).sum = l.length
  | [], _ => by
    have : (List.range n).map (fun x => ([] : List Nat).count x) = (List.range n).map fun x => 0 * 0 := rfl
    rw [this, sum_mul (fun _ => 0) 0]
    exact Nat.mul_zero _
  | a :: l, h => by
    have e : (List.range n).map (fun x => (a :: l).count x) = (List.range n).map fun x => l.count x + if a == x then 1 else 0 := List.map_congr_left fun x _ => List.count_cons
    rw [e, sum_add, sum_count n l fun y hy => h y (List.mem_cons_of_mem _ hy), sum_one, if_pos (h a (List.mem_cons_self ..))]
    rfl
/-! ### the least of some -/
theorem foldl_min : ∀ (l : List Nat) (a : Nat), l.foldl min a ≤ a ∧ (∀ y ∈ l, l.foldl min a ≤ y) ∧ (l.foldl min a = a ∨ l.foldl min a ∈ l)
  | [], a => ⟨Nat.le_refl _, fun _ h => absurd h List.not_mem_nil, .inl rfl⟩
  | b :: l, a => by
    obtain ⟨h1, h2, h3⟩ := foldl_min l (min a b)
    show l.foldl min (min a b) ≤ a ∧ _
    refine ⟨Nat.le_trans h1 (Nat.min_le_left ..), fun y hy => ?_, ?_⟩
    · rcases List.mem_cons.mp hy with e | e
      · rw [e]; exact Nat.le_trans h1 (Nat.min_le_right ..)
      · exact h2 y e
    · show l.foldl min (min a b) = a ∨ l.foldl min (min a b) ∈ b :: l
      rcases h3 with e | e
      · rcases Nat.le_total a b with q | q
        · rw [Nat.min_eq_left q] at e ⊢
          exact .inl e
        · rw [Nat.min_eq_right q] at e ⊢
          exact .inr (by rw [e]; exact List.mem_cons_self ..)
      · exact .inr (List.mem_cons_of_mem _ e)
theorem least_is {l : List Nat} {t : Nat} (h1 : t ∈ l) (h2 : ∀ y ∈ l, t ≤ y) : l.foldl min (l.headD 0) = t := by
  cases l with
  | nil => exact absurd h1 List.not_mem_nil
  | cons a l =>
    obtain ⟨a1, a2, a3⟩ := foldl_min (a :: l) a
    have hm : (a :: l).foldl min a ∈ a :: l := by
      rcases a3 with e | e
      · rw [e]; exact List.mem_cons_self ..
      · exact e
    exact Nat.le_antisymm (a2 t h1) (h2 _ hm)
theorem fact_dvd {k : Nat} (h1 : 0 < k) : ∀ n, k ≤ n → k ∣ factorial n
  | 0, h => by omega
  | n + 1, h => by
    show k ∣ (n + 1) * factorial n
    by_cases c : k = n + 1
    · rw [c]; exact Nat.dvd_mul_right _ _
    · exact Nat.dvd_trans (fact_dvd h1 n (by omega)) (Nat.dvd_mul_left _ _)
theorem fact_pos : ∀ n, 0 < factorial n
  | 0 => by decide
  | n + 1 => Nat.mul_pos (Nat.succ_pos n) (fact_pos n)
theorem filter_less {p q : Nat → Bool} (h : ∀ x, q x = true → p x = true) : ∀ {l : List Nat} {y : Nat}, y ∈ l → p y = true → q y = false → (l.filter q).length < (l.filter p).length
  | [], _, hy, _, _ => absurd hy List.not_mem_nil
  | a :: l, y, hy, h1, h2 => by
    have le : (l.filter q).length ≤ (l.filter p).length := by
      have : (l.filter q) = (l.filter p).filter q := by
        rw [List.filter_filter]
        refine List.filter_congr fun x _ => ?_
        cases c : q x
        · rfl
        · rw [h x c]; rfl
      rw [this]
      exact List.length_filter_le ..
    rw [List.filter_cons, List.filter_cons]
    by_cases c : a = y
    · rw [c, h1, h2, if_pos rfl, if_neg (by decide), List.length_cons]
      exact Nat.lt_succ_of_le le
    · have ih := filter_less h ((List.mem_cons.mp hy).resolve_left fun e => c e.symm) h1 h2
      cases d : q a
      · rw [if_neg (by decide)]
        split
        · rw [List.length_cons]; exact Nat.lt_succ_of_lt ih
        · exact ih
      · rw [h a d, if_pos rfl, if_pos rfl, List.length_cons, List.length_cons]
        exact Nat.succ_lt_succ ih
/-! ### shares -/
theorem share_eq {a b U V : Nat} (hU : 0 < U) (hV : 0 < V) (h : a * U = b * V) : share a V = share b U := by
  have d1 : 0 < Nat.gcd a V := Nat.gcd_pos_of_pos_right a hV
  have d2 : 0 < Nat.gcd b U := Nat.gcd_pos_of_pos_right b hU
  have c1 := Nat.coprime_div_gcd_div_gcd d1
  have c2 := Nat.coprime_div_gcd_div_gcd d2
  have ea := Nat.div_mul_cancel (Nat.gcd_dvd_left a V)
  have eV := Nat.div_mul_cancel (Nat.gcd_dvd_right a V)
  have eb := Nat.div_mul_cancel (Nat.gcd_dvd_left b U)
  have eU := Nat.div_mul_cancel (Nat.gcd_dvd_right b U)
  show [a / Nat.gcd a V, V / Nat.gcd a V] = [b / Nat.gcd b U, U / Nat.gcd b U]
  generalize Nat.gcd a V = d at *
  generalize Nat.gcd b U = e at *
  generalize a / d = a' at *
  generalize V / d = v at *
  generalize b / e = b' at *
  generalize U / e = u at *
  have key : a' * u = b' * v := by
    refine Nat.eq_of_mul_eq_mul_right (Nat.mul_pos d1 d2) ?_
    have : a' * d * (u * e) = b' * e * (v * d) := by rw [ea, eU, eb, eV, h]
    calc a' * u * (d * e) = a' * d * (u * e) := by ac_rfl
      _ = b' * e * (v * d) := this
      _ = b' * v * (d * e) := by ac_rfl
  have hv : v ∣ u := c1.symm.dvd_of_dvd_mul_left (by rw [key]; exact Nat.dvd_mul_left _ _)
  have hu : u ∣ v := c2.symm.dvd_of_dvd_mul_left (by rw [← key]; exact Nat.dvd_mul_left _ _)
  have huv : u = v := Nat.dvd_antisymm hu hv
  have vpos : 0 < v := Nat.pos_of_ne_zero fun z => by rw [z, Nat.zero_mul] at eV; omega
  rw [huv] at key
  have hab : a' = b' := Nat.eq_of_mul_eq_mul_right vpos key
  rw [hab, huv]
/-! ### a meal -/
def nz (n : Nat) (L : List Nat) : Nat := ((List.range n).filter fun x => L.getD x 0 != 0).length
/-- what each eats of, if something is left -/
theorem eats_some {n : Nat} {w : Wishes} {L : List Nat} (hw : RightW n w) {y : Nat} (hy : y < n) (hL : L.getD y 0 ≠ 0) {i : Nat} (hi : i < n) : ∃ c, eats w L i = some c ∧ c < n ∧ L.getD c 0 ≠ 0 := by
  obtain ⟨c, h1, h2, h3⟩ := find_of_mem (p := fun x => L.getD x 0 != 0) ((hw.2 i hi).all y hy) (bne_iff_ne.mpr hL)
  exact ⟨c, h1, (hw.2 i hi).lt c h3, bne_iff_ne.mp h2⟩
/-- how long all eat -/
def biteT (n : Nat) (w : Wishes) (m : Meal) : Nat :=
  ((((List.range n).filter fun x => decide (0 < eaters n w m.left x)).map fun x => m.left.getD x 0 * factorial n / eaters n w m.left x)).foldl min
    ((((List.range n).filter fun x => decide (0 < eaters n w m.left x)).map fun x => m.left.getD x 0 * factorial n / eaters n w m.left x).headD 0)
theorem bite_is (n : Nat) (w : Wishes) (m : Meal) : bite n w m = ⟨m.unit * factorial n, (List.range n).map fun x => m.left.getD x 0 * factorial n - eaters n w m.left x * biteT n w m,
    (List.range n).map fun i => (List.range n).map fun x => (m.eaten.getD i []).getD x 0 * factorial n + (if eats w m.left i = some x then biteT n w m else 0)⟩ := rfl
theorem bites_go {n : Nat} {w : Wishes} {m : Meal} {k x : Nat} (hx : m.left.getD x 0 ≠ 0) : bites n w (k + 1) m = bites n w k (bite n w m) := by
  show (if (m.left.all fun x => x == 0) = true then m else bites n w k (bite n w m)) = _
  rw [if_neg]
  intro z
  rw [List.all_eq_true] at z
  rw [List.getD_eq_getElem?_getD] at hx
  cases q : m.left[x]? with
  | none => rw [q] at hx; exact hx rfl
  | some y =>
    rw [q] at hx
    exact hx (beq_iff_eq.mp (z y (List.mem_of_getElem? q)))
theorem bites_end {n : Nat} {w : Wishes} {m : Meal} (k : Nat) (h : ∀ y ∈ m.left, y = 0) : bites n w k m = m := by
  cases k with
  | zero => rfl
  | succ k =>
    show (if (m.left.all fun x => x == 0) = true then m else bites n w k (bite n w m)) = _
    rw [if_pos (List.all_eq_true.mpr fun y hy => beq_iff_eq.mpr (h y hy))]
structure EatInv (n : Nat) (w : Wishes) (L : List Nat) (R : List (List Nat)) (V : Nat) : Prop where
  llen : L.length = n
  rlen : R.length = n
  rows : ∀ i, i < n → (R.getD i []).length = n
  vpos : 0 < V
  small : V * 5 ^ nz n L ≤ 5 ^ n
  sum : ∃ T, L.sum + n * T = n * V ∧ ∀ i, i < n → (R.getD i []).sum = T
  spec : ∃ k m, bites n w k m = meal n w ∧ nz n L ≤ k ∧ 0 < m.unit ∧ m.left.length = n ∧ m.eaten.length = n ∧ (∀ i, i < n → (m.eaten.getD i []).length = n) ∧
    (∀ x, x < n → L.getD x 0 * m.unit = m.left.getD x 0 * V) ∧ ∀ i x, i < n → x < n → (R.getD i []).getD x 0 * m.unit = (m.eaten.getD i []).getD x 0 * V
theorem getD_rep {α : Type} {n i : Nat} {a d : α} (h : i < n) : (List.replicate n a).getD i d = a := by
  rw [List.getD_eq_getElem?_getD, List.getElem?_replicate, if_pos h]
  rfl
theorem getD_map_rg {α : Type} {n : Nat} {f : Nat → α} {i : Nat} {d : α} (h : i < n) : ((List.range n).map f).getD i d = f i := by
  rw [List.getD_eq_getElem?_getD, List.getElem?_map, List.getElem?_range h]
  rfl
theorem sum_rep (n a : Nat) : (List.replicate n a).sum = n * a := by
  induction n with
  | zero => exact (Nat.zero_mul a).symm
  | succ n ih =>
    rw [List.replicate_succ, List.sum_cons, ih, Nat.succ_mul, Nat.add_comm]
theorem EatInv.start (n : Nat) (w : Wishes) : EatInv n w (List.replicate n 1) (List.replicate n (List.replicate n 0)) 1 := by
  have hz : nz n (List.replicate n 1) = n := by
    unfold nz
    rw [List.filter_eq_self.mpr, List.length_range]
    intro x hx
    rw [getD_rep (List.mem_range.mp hx)]
    rfl
  refine ⟨List.length_replicate, List.length_replicate, fun i hi => by rw [getD_rep hi, List.length_replicate], by decide, by rw [hz, Nat.one_mul]; exact Nat.le_refl _, ⟨0, by rw [sum_rep]; omega, fun i hi => by rw [getD_rep hi, sum_rep]; exact Nat.mul_zero _⟩, n, ⟨1, List.replicate n 1, List.replicate n (List.replicate n 0)⟩, rfl, by rw [hz]; exact Nat.le_refl _, Nat.one_pos, List.length_replicate, List.length_replicate, fun i hi => by rw [getD_rep hi, List.length_replicate], fun x hx => rfl, fun i x hi hx => rfl⟩
/-- one thing gone -/
theorem EatInv.turn {n : Nat} {w : Wishes} {L : List Nat} {R : List (List Nat)} {V : Nat} (hw : RightW n w) (hn : n ≤ 5) (h : EatInv n w L R V) {c : Nat → Nat} (hc : ∀ i, i < n → eats w L i = some (c i) ∧ c i < n ∧ L.getD (c i) 0 ≠ 0)
    {e : Nat → Nat} (he : ∀ x, e x = ((List.range n).map c).count x) {g : Nat} (hg : 0 < e g) (hmin : ∀ x, x < n → L.getD g 0 * e x ≤ L.getD x 0 * e g)
    {L' : List Nat} (hL' : L' = (List.range n).map fun x => L.getD x 0 * e g - e x * L.getD g 0) {R' : List (List Nat)} (hR' : R'.length = n)
    (hr : ∀ i, i < n → R'.getD i [] = ((R.getD i []).map fun p => p * e g).set (c i) (((R.getD i []).map fun p => p * e g).getD (c i) 0 + L.getD g 0)) :
    EatInv n w L' R' (V * e g) ∧ nz n L' < nz n L := by
  have hcl : ((List.range n).map c).length = n := by rw [List.length_map, List.length_range]
  have egn : e g ≤ n := by
    have := List.count_le_length (a := g) (l := (List.range n).map c)
    rw [hcl] at this
    rw [he]
    exact this
  obtain ⟨i0, hi0, hgi⟩ : ∃ i, i < n ∧ c i = g := by
    rw [he] at hg
    obtain ⟨i, hi, q⟩ := List.mem_map.mp (List.count_pos_iff.mp hg)
    exact ⟨i, List.mem_range.mp hi, q⟩
  have hgn : g < n := by rw [← hgi]; exact (hc i0 hi0).2.1
  have hLg : L.getD g 0 ≠ 0 := by rw [← hgi]; exact (hc i0 hi0).2.2
  have hLx : ∀ x, x < n → L'.getD x 0 = L.getD x 0 * e g - e x * L.getD g 0 := fun x hx => by rw [hL', getD_map_range hx]
  have hnz : nz n L' < nz n L := by
    have le : ∀ x, x < n → L'.getD x 0 ≠ 0 → L.getD x 0 ≠ 0 := fun x hx q z => by
      rw [hLx x hx, z, Nat.zero_mul, Nat.zero_sub] at q
      exact q rfl
    have e1 : nz n L' = ((List.range n).filter fun x => L'.getD x 0 != 0 && L.getD x 0 != 0).length := by
      unfold nz
      congr 1
      refine List.filter_congr fun x hx => ?_
      cases q : (L'.getD x 0 != 0)
      · rfl
      · rw [Bool.true_and, eq_comm]
        exact bne_iff_ne.mpr (le x (List.mem_range.mp hx) (bne_iff_ne.mp q))
    rw [e1]
    unfold nz
    refine filter_less (p := fun x => L.getD x 0 != 0) (fun x q => (Bool.and_eq_true _ _ ▸ q).2) (List.mem_range.mpr hgn) (bne_iff_ne.mpr hLg) ?_
    rw [hLx g hgn, Nat.mul_comm, Nat.sub_self]
    rfl
  obtain ⟨T, hT1, hT2⟩ := h.sum
  obtain ⟨k, m, b1, b2, b3, b4, b5, b6, b7, b8⟩ := h.spec
  have hV := h.vpos
  have Llist : (List.range n).map (fun x => L.getD x 0) = L := map_range_self h.llen
  refine ⟨⟨by rw [hL', List.length_map, List.length_range], hR', fun i hi => ?_, Nat.mul_pos hV hg, ?_, ⟨T * e g + L.getD g 0, ?_, fun i hi => ?_⟩, ?_⟩, hnz⟩
  · rw [hr i hi, List.length_set, List.length_map, h.rows i hi]
  · -- the parts stay few
    have h5 : e g ≤ 5 := Nat.le_trans egn hn
    have := h.small
    have : V * e g * 5 ^ nz n L' ≤ V * 5 ^ nz n L := by
      rw [Nat.mul_assoc]
      refine Nat.mul_le_mul_left V ?_
      calc e g * 5 ^ nz n L' ≤ 5 * 5 ^ nz n L' := Nat.mul_le_mul_right _ h5
        _ = 5 ^ (nz n L' + 1) := by rw [Nat.pow_succ, Nat.mul_comm]
        _ ≤ 5 ^ nz n L := Nat.pow_le_pow_right (by decide) hnz
    omega
  · have s1 := sum_sub (fun x => L.getD x 0 * e g) (fun x => e x * L.getD g 0) (List.range n) fun x hx => by
      have := hmin x (List.mem_range.mp hx)
      rw [Nat.mul_comm (e x)]
      exact this
    have s2 := sum_mul (fun x => L.getD x 0) (e g) (List.range n)
    have s3 := sum_mul e (L.getD g 0) (List.range n)
    have s4 : ((List.range n).map e).sum = n := by
      have e2 : (List.range n).map e = (List.range n).map fun x => ((List.range n).map c).count x := List.map_congr_left fun x _ => he x
      rw [e2, sum_count n _ fun y hy => ?_, hcl]
      obtain ⟨i, hi, q⟩ := List.mem_map.mp hy
      rw [← q]
      exact (hc i (List.mem_range.mp hi)).2.1
    rw [s3, s4, s2, Llist] at s1
    rw [← hL'] at s1
    have e3 : n * (T * e g + L.getD g 0) = n * T * e g + n * L.getD g 0 := by rw [Nat.mul_add, Nat.mul_assoc]
    have e4 : n * (V * e g) = n * V * e g := by rw [Nat.mul_assoc]
    rw [e3, e4, ← hT1, Nat.add_mul]
    omega
  · rw [hr i hi, sum_set (by rw [List.length_map, h.rows i hi]; exact (hc i hi).2.1)]
    have : ((R.getD i []).map fun p => p * e g).sum = (R.getD i []).sum * e g := by
      have := sum_mul (fun p : Nat => p) (e g) (R.getD i [])
      rw [List.map_id'] at this
      exact this
    rw [this, hT2 i hi]
  · have hf := fact_pos n
    have hleft : m.left.getD g 0 ≠ 0 := fun z => by
      have := b7 g hgn
      rw [z, Nat.zero_mul] at this
      rcases Nat.mul_eq_zero.mp this with q | q
      · exact hLg q
      · omega
    have hzero : ∀ x, x < n → (m.left.getD x 0 = 0 ↔ L.getD x 0 = 0) := fun x hx => by
      have := b7 x hx
      constructor
      · intro z
        rw [z, Nat.zero_mul] at this
        exact (Nat.mul_eq_zero.mp this).resolve_right (by omega)
      · intro z
        rw [z, Nat.zero_mul] at this
        exact (Nat.mul_eq_zero.mp this.symm).resolve_right (by omega)
    have heat : ∀ i, i < n → eats w m.left i = some (c i) := fun i hi => by
      rw [← (hc i hi).1]
      refine find_congr_mem fun x hx => ?_
      have := hzero x ((hw.2 i hi).lt x hx)
      rw [Bool.eq_iff_iff, bne_iff_ne, bne_iff_ne]
      exact not_congr this
    have hers : ∀ x, eaters n w m.left x = e x := fun x => by
      rw [he, List.count_eq_countP, List.countP_map, List.countP_eq_length_filter]
      unfold eaters
      congr 1
      refine List.filter_congr fun i hi => ?_
      rw [heat i (List.mem_range.mp hi), Bool.eq_iff_iff, beq_iff_eq]
      show _ ↔ (c i == x) = true
      rw [beq_iff_eq]
      exact ⟨fun q => Option.some.inj q, fun q => congrArg some q⟩
    have hcross : ∀ x, x < n → m.left.getD g 0 * e x ≤ m.left.getD x 0 * e g := fun x hx => by
      have h1 := hmin x hx
      have h2 := b7 g hgn
      have h3 := b7 x hx
      refine Nat.le_of_mul_le_mul_right ?_ hV
      calc m.left.getD g 0 * e x * V = m.left.getD g 0 * V * e x := by ac_rfl
        _ = L.getD g 0 * m.unit * e x := by rw [h2]
        _ = L.getD g 0 * e x * m.unit := by ac_rfl
        _ ≤ L.getD x 0 * e g * m.unit := Nat.mul_le_mul_right _ h1
        _ = L.getD x 0 * m.unit * e g := by ac_rfl
        _ = m.left.getD x 0 * V * e g := by rw [h3]
        _ = m.left.getD x 0 * e g * V := by ac_rfl
    have hdiv : e g ∣ m.left.getD g 0 * factorial n := Nat.dvd_trans (fact_dvd hg n egn) (Nat.dvd_mul_left _ _)
    have hte := Nat.div_mul_cancel hdiv
    have ht : biteT n w m = m.left.getD g 0 * factorial n / e g := by
      unfold biteT
      refine least_is (List.mem_map.mpr ⟨g, List.mem_filter.mpr ⟨List.mem_range.mpr hgn, ?_⟩, ?_⟩) fun y hy => ?_
      · rw [hers]; exact decide_eq_true hg
      · rw [hers]
      · obtain ⟨x, hx, rfl⟩ := List.mem_map.mp hy
        obtain ⟨h1, h2⟩ := List.mem_filter.mp hx
        have h2 := of_decide_eq_true h2
        rw [hers] at h2 ⊢
        rw [Nat.le_div_iff_mul_le h2]
        refine Nat.le_of_mul_le_mul_right ?_ hg
        calc m.left.getD g 0 * factorial n / e g * e x * e g = m.left.getD g 0 * factorial n / e g * e g * e x := by ac_rfl
          _ = m.left.getD g 0 * factorial n * e x := by rw [hte]
          _ = m.left.getD g 0 * e x * factorial n := by ac_rfl
          _ ≤ m.left.getD x 0 * e g * factorial n := Nat.mul_le_mul_right _ (hcross x (List.mem_range.mp h1))
          _ = m.left.getD x 0 * factorial n * e g := by ac_rfl
    rw [← ht] at hte
    obtain ⟨k', rfl⟩ : ∃ k', k = k' + 1 := ⟨k - 1, by omega⟩
    rw [bites_go hleft] at b1
    refine ⟨k', bite n w m, b1, by omega, ?_, ?_, ?_, fun i hi => ?_, fun x hx => ?_, fun i x hi hx => ?_⟩
    · rw [bite_is]; exact Nat.mul_pos b3 hf
    · rw [bite_is]
      show ((List.range n).map _).length = n
      rw [List.length_map, List.length_range]
    · rw [bite_is]
      show ((List.range n).map _).length = n
      rw [List.length_map, List.length_range]
    · rw [bite_is]
      show (((List.range n).map fun i => _).getD i []).length = n
      rw [getD_map_rg hi, List.length_map, List.length_range]
    · rw [bite_is]
      show L'.getD x 0 * (m.unit * factorial n) = ((List.range n).map fun x => m.left.getD x 0 * factorial n - eaters n w m.left x * biteT n w m).getD x 0 * (V * e g)
      rw [getD_map_range hx, hLx x hx, hers, Nat.sub_mul, Nat.sub_mul]
      congr 1
      · calc L.getD x 0 * e g * (m.unit * factorial n) = L.getD x 0 * m.unit * (e g * factorial n) := by ac_rfl
          _ = m.left.getD x 0 * V * (e g * factorial n) := by rw [b7 x hx]
          _ = m.left.getD x 0 * factorial n * (V * e g) := by ac_rfl
      · calc e x * L.getD g 0 * (m.unit * factorial n) = L.getD g 0 * m.unit * (e x * factorial n) := by ac_rfl
          _ = m.left.getD g 0 * V * (e x * factorial n) := by rw [b7 g hgn]
          _ = m.left.getD g 0 * factorial n * (e x * V) := by ac_rfl
          _ = biteT n w m * e g * (e x * V) := by rw [hte]
          _ = e x * biteT n w m * (V * e g) := by ac_rfl
    · rw [bite_is]
      show (R'.getD i []).getD x 0 * (m.unit * factorial n) = (((List.range n).map fun i => (List.range n).map fun x => (m.eaten.getD i []).getD x 0 * factorial n + (if eats w m.left i = some x then biteT n w m else 0)).getD i []).getD x 0 * (V * e g)
      rw [getD_map_rg hi, getD_map_range hx, heat i hi, hr i hi]
      have hcl2 : c i < ((R.getD i []).map fun p => p * e g).length := by rw [List.length_map, h.rows i hi]; exact (hc i hi).2.1
      have hmp : ∀ y, y < n → ((R.getD i []).map fun p => p * e g).getD y 0 = (R.getD i []).getD y 0 * e g := fun y hy => by
        rw [List.getD_eq_getElem?_getD, List.getElem?_map, List.getElem?_eq_getElem (by rw [h.rows i hi]; exact hy), getD_of_lt (by rw [h.rows i hi]; exact hy)]
        rfl
      rw [getD_set_nat hcl2]
      have base : (R.getD i []).getD x 0 * e g * (m.unit * factorial n) = (m.eaten.getD i []).getD x 0 * factorial n * (V * e g) := by
        calc (R.getD i []).getD x 0 * e g * (m.unit * factorial n) = (R.getD i []).getD x 0 * m.unit * (e g * factorial n) := by ac_rfl
          _ = (m.eaten.getD i []).getD x 0 * V * (e g * factorial n) := by rw [b8 i x hi hx]
          _ = (m.eaten.getD i []).getD x 0 * factorial n * (V * e g) := by ac_rfl
      by_cases d : x = c i
      · subst d
        rw [if_pos rfl, if_pos rfl, hmp _ hx, Nat.add_mul, Nat.add_mul, base]
        congr 1
        calc L.getD g 0 * (m.unit * factorial n) = L.getD g 0 * m.unit * factorial n := by ac_rfl
          _ = m.left.getD g 0 * V * factorial n := by rw [b7 g hgn]
          _ = m.left.getD g 0 * factorial n * V := by ac_rfl
          _ = biteT n w m * e g * V := by rw [hte]
          _ = biteT n w m * (V * e g) := by ac_rfl
      · rw [if_neg d, if_neg (fun q => d (Option.some.inj q).symm), hmp x hx, base, Nat.add_zero]
theorem eq_rg {α : Type} {n : Nat} {l : List α} (d : α) (h : l.length = n) : l = (List.range n).map fun i => l.getD i d := by
  refine List.ext_getElem (by rw [List.length_map, List.length_range, h]) fun i h1 h2 => ?_
  rw [List.getElem_map, List.getElem_range, List.getD_eq_getElem?_getD, List.getElem?_eq_getElem h1]
  rfl
theorem flatMap_cong {α β : Type} {f g : α → List β} : ∀ {l : List α}, (∀ x ∈ l, f x = g x) → l.flatMap f = l.flatMap g
  | [], _ => rfl
  | a :: l, h => by
    rw [List.flatMap_cons, List.flatMap_cons, h a (List.mem_cons_self ..), flatMap_cong fun x hx => h x (List.mem_cons_of_mem _ hx)]
/-- all is eaten -/
theorem EatInv.done {n : Nat} {w : Wishes} {L : List Nat} {R : List (List Nat)} {V : Nat} (hn : 0 < n) (h : EatInv n w L R V) (hz : ∀ y ∈ L, y = 0) :
    (∀ i, i < n → (R.getD i []).sum = V) ∧ V ≤ 5 ^ n ∧ shares n w = R.flatMap fun r => r.flatMap fun a => share a V := by
  obtain ⟨T, hT1, hT2⟩ := h.sum
  obtain ⟨k, m, b1, b2, b3, b4, b5, b6, b7, b8⟩ := h.spec
  have hz' : ∀ x, x < n → L.getD x 0 = 0 := fun x hx => hz _ (getD_mem (by rw [h.llen]; exact hx))
  have hsum : L.sum = 0 := by
    have : L = (List.range n).map fun x => L.getD x 0 := (map_range_self h.llen).symm
    rw [this]
    have e2 : (List.range n).map (fun x => L.getD x 0) = (List.range n).map fun x => 0 * 0 := List.map_congr_left fun x hx => hz' x (List.mem_range.mp hx)
    rw [e2, sum_mul (fun _ => 0) 0]
    exact Nat.mul_zero _
  have hTV : T = V := by
    rw [hsum, Nat.zero_add] at hT1
    exact Nat.eq_of_mul_eq_mul_left hn hT1
  have hml : ∀ y ∈ m.left, y = 0 := fun y hy => by
    obtain ⟨x, hx⟩ := List.mem_iff_getElem?.mp hy
    have hxl := (List.getElem?_eq_some_iff.mp hx).1
    have hxn : x < n := by omega
    have e : m.left.getD x 0 = y := by rw [List.getD_eq_getElem?_getD, hx]; rfl
    have := b7 x hxn
    rw [hz' x hxn, Nat.zero_mul, e] at this
    exact (Nat.mul_eq_zero.mp this.symm).resolve_right (by have := h.vpos; omega)
  rw [bites_end k hml] at b1
  refine ⟨fun i hi => by rw [hT2 i hi, hTV], ?_, ?_⟩
  · have := h.small
    have h1 : 1 ≤ 5 ^ nz n L := Nat.pow_pos (by decide)
    calc V = V * 1 := (Nat.mul_one V).symm
      _ ≤ V * 5 ^ nz n L := Nat.mul_le_mul_left V h1
      _ ≤ 5 ^ n := this
  · unfold shares
    rw [← b1]
    rw [eq_rg ([] : List Nat) b5, eq_rg ([] : List Nat) h.rlen, List.flatMap_map, List.flatMap_map]
    refine flatMap_cong fun i hi => ?_
    have hin := List.mem_range.mp hi
    show (m.eaten.getD i []).flatMap (fun a => share a m.unit) = (R.getD i []).flatMap fun a => share a V
    rw [eq_rg 0 (b6 i hin), eq_rg 0 (h.rows i hin), List.flatMap_map, List.flatMap_map]
    refine flatMap_cong fun x hx => ?_
    exact (share_eq b3 h.vpos (b8 i x hin (List.mem_range.mp hx))).symm
end My
set_option Elab.async false
set_option maxRecDepth 100000
set_option maxHeartbeats 4000000
namespace My
open PySem PySem.Spec PyProof.Rows L2
def top (i : Nat) : Stmt := PySem.Challenge.pw_wishgiving_s01_answers.main.body.getD i (.Pass ⟨0, 0, 0, 0⟩)
/-- whole numbers from 0 on, as Python's -/
def iv (l : List Nat) : List V := l.map fun (n : Nat) => V.int (n : Int)
def bv (l : List Bool) : List V := l.map V.bl
theorem iv_len (l : List Nat) : (iv l).length = l.length := List.length_map ..
theorem bv_len (l : List Bool) : (bv l).length = l.length := List.length_map ..
theorem iv_at {l : List Nat} {i x : Nat} (h : l[i]? = some x) : (iv l)[i]? = some (V.int (x : Int)) := by
  unfold iv
  rw [List.getElem?_map, h]
  rfl
theorem bv_at {l : List Bool} {i : Nat} {x : Bool} (h : l[i]? = some x) : (bv l)[i]? = some (V.bl x) := by
  unfold bv
  rw [List.getElem?_map, h]
  rfl
theorem iv_set (l : List Nat) (i x : Nat) : (iv l).set i (V.int (x : Int)) = iv (l.set i x) := by
  unfold iv
  rw [List.map_set]
theorem bv_set (l : List Bool) (i : Nat) (x : Bool) : (bv l).set i (V.bl x) = bv (l.set i x) := by
  unfold bv
  rw [List.map_set]
theorem iv_ints (l : List Nat) : iv l = (l.map fun n : Nat => (n : Int)).map V.int := by
  unfold iv
  rw [List.map_map]
  rfl
theorem iv_get {l : List Nat} {i : Nat} {y : V} (h : (iv l)[i]? = some y) : ∃ x, l[i]? = some x ∧ y = V.int (x : Int) := by
  unfold iv at h
  rw [List.getElem?_map] at h
  cases e : l[i]? with
  | none => rw [e] at h; cases h
  | some x => rw [e] at h; exact ⟨x, rfl, (Option.some.inj h).symm⟩
theorem ixN_nat {n k : Nat} (h : k < n) : ixN n (k : Int) = some k := by
  unfold ixN
  rw [if_pos (by omega), if_pos (by omega)]
  rfl
theorem same_upd {H : Hp} {p : Addr} {o : HO} (h : H p = none) : Same H (upd H p o) := fun b x e => by
  rw [upd_ne (ne_of_none e h)]
  exact e
/-- what's new is changed: all that was tracked stands -/
theorem same_put {H H' : Hp} {p : Addr} {o : HO} (h : H p = none) (s : Same H H') : Same H (upd H' p o) := fun b x e => by
  rw [upd_ne (ne_of_none e h)]
  exact s b x e
theorem lst_ne {H : Hp} {p q : Addr} {o : HO} (h1 : H p = some o) (h2 : H q = none) : p ≠ q := ne_of_none h1 h2
theorem small {n m : Nat} (h : n ≤ m) (hm : m ≤ sizeLine) : n ≤ sizeLine := Nat.le_trans h hm

/-! ### lists of whole numbers as data -/
theorem dpAll_ints (K : PySem.W.Frag) (H : Hp) : ∀ ns : List Int, DpAll K H (ns.map V.int) (ns.map PyData.int)
  | [] => .nil
  | n :: ns => .cons (.int n) (dpAll_ints K H ns)
theorem depthAll_ints : ∀ ns : List Int, PyData.depthAll (ns.map PyData.int) = 0
  | [] => rfl
  | n :: ns => by
    rw [List.map_cons, PyData.depthAll, depthAll_ints ns]
    rfl
theorem lay_ints : ∀ ns : List Int, PyData.canLayAll0 (ns.map PyData.int) = true
  | [] => rfl
  | n :: ns => by
    rw [List.map_cons, PyData.canLayAll0, lay_ints ns]
    rfl
theorem shaped_ints (ns : List Int) : SeqAt.shaped (.list (ns.map PyData.int)) = true := by
  unfold SeqAt.shaped
  rw [PyData.canLay0, lay_ints, PyData.depth, depthAll_ints]
  rfl
theorem eqv_ints : ∀ xs ys : List Int, PyData.eqvAll (xs.map PyData.int) (ys.map PyData.int) = decide (xs = ys)
  | [], [] => by simp [PyData.eqvAll]
  | [], _ :: _ => by simp [PyData.eqvAll]
  | _ :: _, [] => by simp [PyData.eqvAll]
  | x :: xs, y :: ys => by
    rw [List.map_cons, List.map_cons, PyData.eqvAll, eqv_ints xs ys]
    show ((x == y) && decide (xs = ys)) = _
    rw [Bool.eq_iff_iff, Bool.and_eq_true, beq_iff_eq, decide_eq_true_iff, decide_eq_true_iff, List.cons.injEq]
end My
set_option Elab.async false
set_option maxRecDepth 100000
set_option maxHeartbeats 4000000
namespace My
open PySem PySem.Spec PyProof.Rows L2
abbrev sEach : Stmt := top 1
theorem scEach : FnScope ["numbers", "size"] ["numbers", "size"] (defScope sEach) := ⟨rfl, rfl, rfl, by decide +kernel, rfl, by decide +kernel, by decide +kernel⟩

theorem sorted_same : ∀ {a b : List Int}, a.Perm b → a.Pairwise (· ≤ ·) → b.Pairwise (· ≤ ·) → a = b := fun hp ha hb =>
  List.Perm.eq_of_pairwise (fun x y _ _ h1 h2 => Int.le_antisymm h1 h2) ha hb hp
theorem range_up (n : Nat) : ((List.range n).map fun i : Nat => (i : Int)).Pairwise (· ≤ ·) := by
  rw [List.pairwise_map]
  refine List.Pairwise.imp ?_ (List.pairwise_lt_range (n := n))
  intro i j h
  omega
theorem each_sorted {n : Nat} {ns ns' : List Int} (h0 : ∀ x ∈ ns, 0 ≤ x) (hp : ns'.Perm ns) (hs : ns'.Pairwise (· ≤ ·)) :
    decide (ns' = (List.range n).map fun i : Nat => (i : Int)) = Rc57.each n (ns.map Int.toNat) := by
  rw [Bool.eq_iff_iff, decide_eq_true_iff]
  constructor
  · intro e
    rw [e] at hp
    have p2 : (List.range n).Perm (ns.map Int.toNat) := by
      have := hp.map Int.toNat
      rw [List.map_map] at this
      have e2 : (List.range n).map (Int.toNat ∘ fun i : Nat => (i : Int)) = List.range n := by
        conv => rhs; rw [← List.map_id (List.range n)]
        exact List.map_congr_left fun i _ => Int.toNat_natCast i
      rw [e2] at this
      exact this
    refine (Each.each (each_of_nodup (p2.nodup_iff.mp List.nodup_range) ?_ fun x hx => List.mem_range.mp (p2.mem_iff.mpr hx)))
    rw [← p2.length_eq, List.length_range]
  · intro h
    have E := each_Each h
    have p2 : (ns.map Int.toNat).Perm (List.range n) := by
      refine (List.perm_ext_iff_of_nodup E.nodup List.nodup_range).mpr fun x => ?_
      rw [List.mem_range]
      exact ⟨E.lt x, E.all x⟩
    have p3 : ns.Perm ((List.range n).map fun i : Nat => (i : Int)) := by
      have := p2.map fun i : Nat => (i : Int)
      rw [List.map_map] at this
      have e2 : ns.map ((fun i : Nat => (i : Int)) ∘ Int.toNat) = ns := by
        conv => rhs; rw [← List.map_id ns]
        exact List.map_congr_left fun i hi => Int.toNat_of_nonneg (h0 i hi)
      rw [e2] at this
      exact this
    exact sorted_same (hp.trans p3) hs (range_up n)
theorem rgV_ints (n : Nat) : rgV 0 (n : Int) = ((List.range n).map fun i : Nat => (i : Int)).map V.int := by
  unfold rgV
  rw [List.map_map]
  show (List.range ((n : Int) - 0).toNat).map _ = _
  rw [show ((n : Int) - 0).toNat = n by omega]
  exact List.map_congr_left fun i _ => by show V.int (0 + (i : Int)) = V.int (i : Int); rw [Int.zero_add]
section
variable {P : Program} {w : World} {K : PySem.W.Frag} {mg : Str → Option Value} {base : Heap}
/-- is_each_once(numbers, size): a few whole numbers, none below 0 -/
def spEach (K : PySem.W.Frag) : Sp := fun vs H Q _ => ∃ (a : Addr) (ns : List Int) (n : Nat), vs = [.ref a, .int (n : Int)] ∧ SqL K H a (ns.map V.int) ∧ ns.length < 64 ∧ (∀ x ∈ ns, 0 ≤ x) ∧ n ≤ 1000 ∧
  ∀ H', Same H H' → Q (.bl (Rc57.each n (ns.map Int.toNat))) H'
theorem ok_each {f : Addr} {fd : FuncData} {k : Nat} (F : Fun K "is_each_once" "is_each_once" sEach f fd) (mS : mg "sorted" = none) (mL : mg "list" = none) (mR : mg "range" = none) : FnOk P w K mg base CX0 (k + 1) f fd ["numbers", "size"] (spEach K) := by
  refine F.ok scEach (fun vs H Q E h => ?_) (fun cdv A outer s H vs Q E hr h => ?_)
  · obtain ⟨a, ns, n, rfl, _⟩ := h
    rfl
  · obtain ⟨a, ns, n, rfl, hS, hlen, h0, hn, q⟩ := h
    refine ⟨_, pss_one (ps_ret (pe_cmpR (op_eqD hr.units) (pe_callB cr_sorted (by rfl) mS (by decide +kernel) (pa_cons (pv 0) pa_nil)) (pe_listRg rfl (by rfl) mL (prg_1 (by rfl) mR (pv 1))) (nomark _))), ?_⟩
    refine ⟨_, rfl, a, ns, rfl, hS, hlen, fun ns' p hp hs np => ?_⟩
    have s1 : Same H (upd H p (.lst (ns'.map V.int))) := same_upd np
    refine ⟨_, rfl, _, rfl, ⟨by omega, by omega, by omega, by omega, by omega⟩, fun r nr => ?_⟩
    have s2 : Same H (upd (upd H p (.lst (ns'.map V.int))) r (.lst (rgV 0 (n : Int)))) := s1.trans (same_upd nr)
    have np2 : (upd (upd H p (.lst (ns'.map V.int))) r (.lst (rgV 0 (n : Int)))) p = some (.lst (ns'.map V.int)) := (same_upd nr) _ _ upd_same
    have e2 : (upd (upd H p (.lst (ns'.map V.int))) r (.lst (rgV 0 (n : Int)))) r = some (.lst (((List.range n).map fun i : Nat => (i : Int)).map V.int)) := by
      rw [upd_same, rgV_ints]
    refine ⟨_, _, .lst (SqL.of np2) (dpAll_ints K _ ns'), .lst (SqL.of e2) (dpAll_ints K _ _), shaped_ints _, shaped_ints _, ?_⟩
    have : PyData.eqv (.list (ns'.map PyData.int)) (.list (((List.range n).map fun i : Nat => (i : Int)).map PyData.int)) = Rc57.each n (ns.map Int.toNat) := by
      rw [PyData.eqv, eqv_ints, each_sorted h0 hp hs]
    rw [this]
    exact q _ s2
end
end My
set_option Elab.async false
set_option maxRecDepth 100000
set_option maxHeartbeats 4000000
namespace My
open PySem PySem.Spec PyProof.Rows L2
abbrev sDear : Stmt := top 2
theorem scDear : FnScope ["things", "left", "thing"] ["things", "left"] (defScope sDear) := ⟨rfl, rfl, rfl, by decide +kernel, rfl, by decide +kernel, by decide +kernel⟩
theorem leftOf_more {things : List Nat} {left : List Bool} {i x : Nat} (h : things[i]? = some x) : leftOf (things.take (i + 1)) left = leftOf (things.take i) left ++ (if left.getD x false = true then [x] else []) := by
  unfold leftOf
  rw [take_more h, List.filter_append]
  congr 1
  rw [List.filter_cons]
  rfl
section
variable {P : Program} {w : World} {K : PySem.W.Frag} {mg : Str → Option Value} {base : Heap}
/-- dearest(things, left): the first of things that's left -/
def spDear (K : PySem.W.Frag) : Sp := fun vs H Q _ => ∃ (a b : Addr) (things : List Nat) (left : List Bool) (x : Nat), vs = [.ref a, .ref b] ∧ SqL K H a (iv things) ∧ SqL K H b (bv left) ∧ (∀ y ∈ things, y < left.length) ∧ things.length ≤ 1000 ∧
  (leftOf things left)[0]? = some x ∧ ∀ H', Same H H' → Q (.int (x : Int)) H'
theorem ok_dear {f : Addr} {fd : FuncData} {k : Nat} (F : Fun K "dearest" "dearest" sDear f fd) : FnOk P w K mg base CX0 (k + 1) f fd ["things", "left"] (spDear K) := by
  refine F.ok scDear (fun vs H Q E h => ?_) (fun cdv A outer s H vs Q E hr h => ?_)
  · obtain ⟨a, b, _, _, _, rfl, _⟩ := h
    rfl
  · obtain ⟨a, b, things, left, x, rfl, hA, hB, hlt, hlen, hx, q⟩ := h
    refine ⟨_, pss_one (ps_ret (pe_ix ix_list (pe_lc (own := [("thing", 2)]) (g := gName 2) (by rfl) scDear.nd (pi_list (pv 0)) (blkOk_by (N := ["things", "left", "thing"]) (sc := defScope sDear) (by decide +kernel)) (fun _ _ _ _ _ => pg_name (i := 2) scDear.nd rfl (Or.inl rfl))
      (fun _ _ _ _ _ => pts_one (pt_val (pe_ix (r := rIxL K) ix_list (pv 1) (pv 2) (fun _ _ => rfl)))) (fun _ _ _ _ _ => pv 2)) pe_int (fun _ _ => rfl))), ?_⟩
    refine ⟨.ref a, rfl, a, rfl, ⟨_, hA⟩, fun D hD => ?_⟩
    refine lc_list (K := K) (a := a) (xs := iv things) (fun i H' => Same H H' ∧ H' D = some (.lst (iv (leftOf (things.take i) left)))) ⟨same_upd hD, upd_same⟩ (fun i H' _ h => h.1.seq hA) ?_ ?_
    · rintro i y H' hi ⟨sm, hD'⟩
      obtain ⟨z, hz, rfl⟩ := iv_get hi
      have hzl : z < left.length := hlt z (List.mem_of_getElem? hz)
      have hl : left[z]? = some (left.getD z false) := by
        rw [List.getD_eq_getElem?_getD, List.getElem?_eq_getElem hzl]
        rfl
      refine ⟨rfl, ?_⟩
      refine ⟨_, rfl, _, rfl, b, bv left, (z : Int), _, rfl, rfl, sm.seq hB, at_of rfl (bv_at hl), _, rfl, ?_⟩
      have e := leftOf_more (left := left) hz
      refine ite2 (fun c => ?_) (fun c => ?_)
      · rw [if_pos c] at e
        refine ⟨_, rfl, _, hD', ?_, ⟨same_put hD sm, ?_⟩⟩
        · rw [iv_len]
          refine small1000 (Nat.le_trans (List.length_filter_le ..) ?_)
          exact Nat.le_trans (List.length_take_le ..) (by have := (List.getElem?_eq_some_iff.mp hz).1; omega)
        · rw [upd_same, e]
          unfold iv
          rw [List.map_append]
          rfl
      · rw [if_neg c, List.append_nil] at e
        exact ⟨sm, by rw [e]; exact hD'⟩
    · rintro H' ⟨sm, hD'⟩
      rw [iv_len, List.take_length] at hD'
      exact ⟨D, _, 0, _, rfl, rfl, SqL.of hD', at_of rfl (iv_at hx), q _ sm⟩
end
end My
set_option Elab.async false
set_option maxRecDepth 100000
set_option maxHeartbeats 4000000
namespace My
open PySem PySem.Spec PyProof.Rows L2
open Rc57 (orderOf Wishes)
abbrev sTurns : Stmt := top 3
theorem scTurns : FnScope ["wishes", "order", "left", "given", "person", "thing"] ["wishes", "order"] (defScope sTurns) := ⟨rfl, rfl, rfl, by decide +kernel, rfl, by decide +kernel, by decide +kernel⟩
/-- wishes as they stand: a list of lists -/
structure Wsh (K : PySem.W.Frag) (H : Hp) (a : Addr) (w : Wishes) : Prop where
  ex : ∃ as : List Addr, SqL K H a (as.map V.ref) ∧ ∀ (i : Nat) (l : List Nat), (w : List (List Nat))[i]? = some l → ∃ c, as[i]? = some c ∧ SqL K H c (iv l)
theorem Wsh.same {K : PySem.W.Frag} {H H' : Hp} {a : Addr} {w : Wishes} (h : Wsh K H a w) (s : Same H H') : Wsh K H' a w := by
  obtain ⟨as, h1, h2⟩ := h.ex
  refine ⟨as, s.seq h1, fun i l e => ?_⟩
  obtain ⟨c, e1, e2⟩ := h2 i l e
  exact ⟨c, e1, s.seq e2⟩
/-- one of the wishes, read -/
theorem Wsh.read {K : PySem.W.Frag} {H : Hp} {a : Addr} {w : Wishes} {n i : Nat} (h : Wsh K H a w) (hw : RightW n w) (hi : i < n) : ∃ vs c, SqL K H a vs ∧ vs[i]? = some (V.ref c) ∧ SqL K H c (iv (orderOf w i)) := by
  obtain ⟨as, h1, h2⟩ := h.ex
  have hl : i < w.length := by rw [hw.1]; exact hi
  obtain ⟨c, e1, e2⟩ := h2 i (orderOf w i) (by
    unfold orderOf
    rw [List.getD_eq_getElem?_getD, List.getElem?_eq_getElem hl]
    rfl)
  refine ⟨_, c, h1, ?_, e2⟩
  rw [List.getElem?_map, e1]
  rfl
theorem rep_bl (n : Nat) (b : Bool) : (List.replicate n [V.bl b]).flatten = bv (List.replicate n b) := by
  unfold bv
  rw [List.flatten_replicate_singleton, List.map_replicate]
theorem rep_int (n i : Nat) : (List.replicate n [V.int (i : Int)]).flatten = iv (List.replicate n i) := by
  unfold iv
  rw [List.flatten_replicate_singleton, List.map_replicate]
section
variable {P : Program} {w : World} {K : PySem.W.Frag} {mg : Str → Option Value} {base : Heap}
/-- taken_in_turn(wishes, order) -/
def spTurns (K : PySem.W.Frag) : Sp := fun vs H Q _ => ∃ (a b : Addr) (ws : Wishes) (order : List Nat) (n : Nat), vs = [.ref a, .ref b] ∧ Wsh K H a ws ∧ SqL K H b (iv order) ∧ RightW n ws ∧ Each n order ∧ n ≤ 1000 ∧
  ∀ H' p, Same H H' → H p = none → H' p = some (.lst (iv (Rc57.turns n ws order))) → Q (.ref p) H'
theorem ok_turns {f fD : Addr} {fd fdD : FuncData} {k : Nat} (F : Fun K "taken_in_turn" "taken_in_turn" sTurns f fd) (mLen : mg "len" = none)
    (GD : FnOk P w K mg base CX0 k fD fdD ["things", "left"] (spDear K)) (mD : mg "dearest" = some (.ref fD)) (kD : PySem.W.keepIn K (.ref fD) = true) (bD : Binds K fdD ["things", "left"] []) :
    FnOk P w K mg base CX0 (k + 1) f fd ["wishes", "order"] (spTurns K) := by
  refine F.ok scTurns (fun vs H Q E h => ?_) (fun cdv A outer s H vs Q E hr h => ?_)
  · obtain ⟨a, b, _, _, _, rfl, _⟩ := h
    rfl
  · obtain ⟨a, b, ws, order, n, rfl, hA, hB, hW, hO, hn, q⟩ := h
    refine ⟨_, pss_cons (ps_set (i := 2) scTurns.nd rfl (Or.inl rfl) (pe_op op_rep (pe_lst (pa_cons pe_bl pa_nil)) (pe_callB call_len_seq (by rfl) mLen PySem.boot_len (pa_cons (pv 1) pa_nil))))
      (pss_cons (ps_set (i := 3) scTurns.nd rfl (Or.inl rfl) (pe_op op_rep (pe_lst (pa_cons pe_int pa_nil)) (pe_callB call_len_seq (by rfl) mLen PySem.boot_len (pa_cons (pv 1) pa_nil))))
      (pss_cons (ps_for PassesOwn.never rfl (pi_list (pv 1)) (pg_name (i := 4) scTurns.nd rfl (Or.inl rfl))
        (pss_cons (ps_set (i := 5) scTurns.nd rfl (Or.inl rfl) (pe_call GD hr (by rfl) mD kD bD .nil pass0 (pa_cons (pe_ix ix_list (pv 0) (pv 4) (fun _ _ => rfl)) (pa_cons (pv 2) pa_nil))))
        (pss_cons (ps_asg (pv 5) (pg_sub (pv 3) (pv 4) set_list))
        (pss_one (ps_asg pe_bl (pg_sub (pv 2) (pv 5) set_list))))))
      (pss_one (ps_ret (pv 3))))), ?_⟩
    -- left = [True] * len(order)
    refine ⟨by decide, fun p1 n1 => ?_⟩
    have s1 := same_upd (o := .lst [V.bl true]) n1
    refine ⟨_, rfl, b, _, rfl, .inl (s1.seq hB), p1, _, _, rfl, rfl, upd_same, by rw [iv_len, hO.len]; omega, by rw [iv_len, hO.len]; omega, ?_, fun l nl => ?_⟩
    · rw [iv_len, hO.len]
      show 1 * ((n : Int)).toNat ≤ sizeLine
      exact Nat.le_of_lt (small1000 (by omega))
    rw [iv_len, hO.len, Int.toNat_natCast, rep_bl]
    have s2 := s1.trans (same_upd (o := .lst (bv (List.replicate n true))) nl)
    have nl0 : H l = none := s1.free nl
    -- given = [0] * len(order)
    refine ⟨by decide, fun p2 n2 => ?_⟩
    have s3 := s2.trans (same_upd (o := .lst [V.int 0]) n2)
    refine ⟨_, rfl, b, _, rfl, .inl (s3.seq hB), p2, _, _, rfl, rfl, upd_same, by rw [iv_len, hO.len]; omega, by rw [iv_len, hO.len]; omega, ?_, fun g ng => ?_⟩
    · rw [iv_len, hO.len]
      show 1 * ((n : Int)).toNat ≤ sizeLine
      exact Nat.le_of_lt (small1000 (by omega))
    rw [iv_len, hO.len, Int.toNat_natCast, show V.int 0 = V.int ((0 : Nat) : Int) from rfl, rep_int]
    have s4 := s3.trans (same_upd (o := .lst (iv (List.replicate n 0))) ng)
    have ng0 : H g = none := s3.free ng
    have l2 : l ≠ p2 := ne_of_none upd_same n2
    have lg : l ≠ g := ne_of_none (by rw [upd_ne l2]; exact upd_same) ng
    -- the loop
    refine ⟨_, rfl, b, rfl, ⟨_, s4.seq hB⟩, for_list (K := K) (a := b) (xs := iv order) (fun i σ H' => ∃ (x4 x5 : Option V) (left : List Bool) (given : List Nat), σ = [some (.ref a), some (.ref b), some (.ref l), some (.ref g), x4, x5] ∧ Same H H' ∧
        H' l = some (.lst (bv left)) ∧ H' g = some (.lst (iv given)) ∧ TurnInv n ws order i left given)
      ⟨none, none, _, _, rfl, s4, by rw [upd_ne lg, upd_ne l2]; exact upd_same, upd_same, TurnInv.start⟩ (fun i σ H' _ ⟨_, _, _, _, _, s5, _⟩ => s5.seq hB) ?_ ?_⟩
    · rintro i y σ H' hi ⟨x4, x5, left, given, rfl, s5, hl, hg, hT⟩
      obtain ⟨p, hp, rfl⟩ := iv_get hi
      have hk : i < n := by
        have := (List.getElem?_eq_some_iff.mp hp).1
        rw [hO.len] at this
        exact this
      obtain ⟨hpn, x, e1, hx, hT'⟩ := hT.dear hW hO hp
      obtain ⟨vs, c, r1, r2, r3⟩ := (hA.same s5).read hW hpn
      have lenL : left.length = n := by obtain ⟨_, _, _, _, _, _, m, _⟩ := hT.ex; exact m.len
      have EW := hW.2 p hpn
      refine ⟨_, rfl, _, rfl, a, vs, (p : Int), _, rfl, rfl, r1, at_of rfl r2, _, rfl, ?_⟩
      refine ⟨c, l, _, left, x, rfl, r3, SqL.of hl, (fun y hy => by rw [lenL]; exact EW.lt y hy), (by rw [EW.len]; exact hn), e1, fun H2 s6 => ?_⟩
      -- given[person] = thing
      refine ⟨_, rfl, _, rfl, _, rfl, g, _, _, p, rfl, rfl, s6 _ _ hg, ixN_nat (by rw [iv_len, hT.len]; exact hpn), ?_⟩
      -- left[thing] = False
      have lg2 : l ≠ g := lg
      refine ⟨_, rfl, _, rfl, l, bv left, _, x, rfl, rfl, ?_, ?_, ?_⟩
      · rw [upd_ne lg2]
        exact s6 _ _ hl
      · exact ixN_nat (by rw [bv_len, lenL]; exact hx)
      · refine ⟨some (.int p), some (.int x), left.set x false, given.set p x, rfl, same_put nl0 (same_put ng0 (s5.trans s6)), ?_, ?_, hT'⟩
        · rw [upd_same, bv_set]
        · rw [upd_ne lg2.symm, upd_same, iv_set]
    · rintro σ H' ⟨x4, x5, left, given, rfl, s5, hl, hg, hT⟩
      rw [iv_len, hO.len] at hT
      refine ⟨_, rfl, q H' g s5 ng0 ?_⟩
      rw [hg, hT.finish hO]
end
end My
set_option Elab.async false
set_option maxRecDepth 100000
set_option maxHeartbeats 4000000
namespace My
open PySem PySem.Spec PyProof.Rows L2
open Rc57 (orderOf Wishes)
abbrev sOwners : Stmt := top 6
theorem scOwners : FnScope ["own", "owners", "person", "thing"] ["own"] (defScope sOwners) := ⟨rfl, rfl, rfl, by decide +kernel, rfl, by decide +kernel, by decide +kernel⟩
section
variable {P : Program} {w : World} {K : PySem.W.Frag} {mg : Str → Option Value} {base : Heap}
/-- owners_of(own) -/
def spOwners (K : PySem.W.Frag) : Sp := fun vs H Q _ => ∃ (a : Addr) (own : List Nat) (n : Nat), vs = [.ref a] ∧ SqL K H a (iv own) ∧ Each n own ∧ n ≤ 1000 ∧
  ∀ H' p owners, Same H H' → H p = none → H' p = some (.lst (iv owners)) → OwnInv own n owners → Q (.ref p) H'
theorem ok_owners {f : Addr} {fd : FuncData} {k : Nat} (F : Fun K "owners_of" "owners_of" sOwners f fd) (mLen : mg "len" = none) (mE : mg "enumerate" = none) :
    FnOk P w K mg base CX0 (k + 1) f fd ["own"] (spOwners K) := by
  refine F.ok scOwners (fun vs H Q E h => ?_) (fun cdv A outer s H vs Q E hr h => ?_)
  · obtain ⟨a, _, _, rfl, _⟩ := h
    rfl
  · obtain ⟨a, own, n, rfl, hA, hO, hn, q⟩ := h
    refine ⟨_, pss_cons (ps_set (i := 1) scOwners.nd rfl (Or.inl rfl) (pe_op op_rep (pe_lst (pa_cons pe_int pa_nil)) (pe_callB call_len_seq (by rfl) mLen PySem.boot_len (pa_cons (pv 0) pa_nil))))
      (pss_cons (ps_for PassesOwn.never rfl (pi_enum (by rfl) mE (pa_cons (pv 0) pa_nil)) (pg_tup rfl (pgs_cons (pg_name (i := 2) scOwners.nd rfl (.inl rfl)) (pgs_cons (pg_name (i := 3) scOwners.nd rfl (.inl rfl)) pgs_nil)))
        (pss_one (ps_asg (pv 2) (pg_sub (pv 1) (pv 3) set_list))))
      (pss_one (ps_ret (pv 1)))), ?_⟩
    refine ⟨by decide, fun p2 n2 => ?_⟩
    have s3 := same_upd (o := .lst [V.int 0]) n2
    refine ⟨_, rfl, a, _, rfl, .inl (s3.seq hA), p2, _, _, rfl, rfl, upd_same, by rw [iv_len, hO.len]; omega, by rw [iv_len, hO.len]; omega, ?_, fun g ng => ?_⟩
    · rw [iv_len, hO.len]
      show 1 * ((n : Int)).toNat ≤ sizeLine
      exact Nat.le_of_lt (small1000 (by omega))
    rw [iv_len, hO.len, Int.toNat_natCast, show V.int 0 = V.int ((0 : Nat) : Int) from rfl, rep_int]
    have s4 := s3.trans (same_upd (o := .lst (iv (List.replicate n 0))) ng)
    have ng0 : H g = none := s3.free ng
    refine ⟨_, rfl, a, iv own, rfl, s4.seq hA, for_it (walk_enum (K := K) (a := a) (xs := iv own)) (fun i σ H' => ∃ (x2 x3 : Option V) (owners : List Nat), σ = [some (.ref a), some (.ref g), x2, x3] ∧ Same H H' ∧ H' g = some (.lst (iv owners)) ∧ OwnInv own i owners)
      ⟨none, none, _, rfl, s4, upd_same, ?_⟩ (fun i σ H' _ ⟨_, _, _, _, s5, _⟩ => s5.seq hA) ?_ ?_⟩
    · have := OwnInv.start own
      rw [hO.len] at this
      exact this
    · rintro i y σ H1 H2 hi ⟨x2, x3, owners, rfl, s5, hg, hV⟩ ⟨T, x, z, rfl, nT, rfl, e1, e2⟩
      obtain ⟨p, hp, rfl⟩ := iv_get e2
      cases e1
      have sT := same_upd (o := .tup [V.int (i : Nat), V.int (p : Int)]) nT
      refine ⟨T, _, rfl, .inl (.inl upd_same), rfl, _, _, rfl, _, _, rfl, rfl, ?_⟩
      obtain ⟨hl, hV'⟩ := hV.turn hO hp
      refine ⟨_, rfl, _, rfl, _, rfl, g, _, _, p, rfl, rfl, sT _ _ hg, ixN_nat (by rw [iv_len]; exact hl), ?_⟩
      refine ⟨_, _, owners.set p i, rfl, same_put ng0 (s5.trans sT), ?_, hV'⟩
      rw [upd_same, iv_set]
    · rintro σ H' ⟨x2, x3, owners, rfl, s5, hg, hV⟩
      rw [iv_len, hO.len] at hV
      exact ⟨_, rfl, q H' g owners s5 ng0 hg hV⟩
end
end My
set_option Elab.async false
set_option maxRecDepth 100000
set_option maxHeartbeats 4000000
namespace My
open PySem PySem.Spec PyProof.Rows L2
open Rc57 (orderOf Wishes looks)
abbrev sRing : Stmt := top 7
theorem scRing : FnScope ["wishes", "owners", "left", "person", "walked"] ["wishes", "owners", "left"] (defScope sRing) := ⟨rfl, rfl, rfl, by decide +kernel, rfl, by decide +kernel, by decide +kernel⟩
theorem bv_flat : ∀ l : List Bool, (bv l).all flatV = true
  | [] => rfl
  | _ :: l => bv_flat l
theorem iv_flat : ∀ l : List Nat, (iv l).all flatV = true
  | [] => rfl
  | _ :: l => iv_flat l
theorem eqV_nat (a b : Nat) : eqV (.int (a : Int)) (.int (b : Int)) = (a == b) := by
  show ((a : Int) == (b : Int)) = (a == b)
  rw [Bool.eq_iff_iff, beq_iff_eq, beq_iff_eq]
  omega
theorem inV_iv (x : Nat) : ∀ l : List Nat, inV (.int (x : Int)) (iv l) = l.contains x
  | [] => rfl
  | a :: l => by
    show (eqV (.int (a : Int)) (.int (x : Int)) || inV (.int (x : Int)) (iv l)) = _
    rw [inV_iv x l, eqV_nat, List.contains_cons, Bool.eq_iff_iff, Bool.or_eq_true, Bool.or_eq_true, beq_iff_eq, beq_iff_eq]
    exact or_congr ⟨fun h => h.symm, fun h => h.symm⟩ Iff.rfl
theorem cut_from (l : List Nat) (j : Nat) (h : j ≤ l.length) : cutV (iv l) (some (j : Int)) none = iv (l.drop j) := by
  unfold cutV
  rw [show HT.sIx (iv l).length 0 (some (j : Int)) = min j (iv l).length from HT.sIx_nat _ 0 j, HT.sIx_none, iv_len, Nat.min_eq_left h]
  unfold iv
  rw [← List.map_drop, List.take_of_length_le (by rw [List.length_map, List.length_drop]; exact Nat.le_refl _)]
section
variable {P : Program} {w : World} {K : PySem.W.Frag} {mg : Str → Option Value} {base : Heap}
/-- some_ring(wishes, owners, left) -/
def spRing (K : PySem.W.Frag) : Sp := fun vs H Q _ => ∃ (a o l : Addr) (ws : Wishes) (own owners : List Nat) (left : List Bool) (n : Nat), vs = [.ref a, .ref o, .ref l] ∧ Wsh K H a ws ∧ SqL K H o (iv owners) ∧ SqL K H l (bv left) ∧
  RightW n ws ∧ Each n own ∧ OwnInv own n owners ∧ left.length = n ∧ (∃ x : Nat, left[x]? = some true) ∧ n ≤ 1000 ∧
  ∀ H' p r, Same H H' → H p = none → H' p = some (.lst (iv r)) → IsRing (looks ws own) (there n own left) r → r.length ≤ n → Q (.ref p) H'
theorem ok_ring {f fD : Addr} {fd fdD : FuncData} {k : Nat} (F : Fun K "some_ring" "some_ring" sRing f fd)
    (GD : FnOk P w K mg base CX0 k fD fdD ["things", "left"] (spDear K)) (mD : mg "dearest" = some (.ref fD)) (kD : PySem.W.keepIn K (.ref fD) = true) (bD : Binds K fdD ["things", "left"] []) :
    FnOk P w K mg base CX0 (k + 1) f fd ["wishes", "owners", "left"] (spRing K) := by
  refine F.ok scRing (fun vs H Q E h => ?_) (fun cdv A outer s H vs Q E hr h => ?_)
  · obtain ⟨a, o, l, _, _, _, _, _, rfl, _⟩ := h
    rfl
  · obtain ⟨a, o, l, ws, own, owners, left, n, rfl, hA, hO, hL, hW, hE, hS, hlen, hx, hn, q⟩ := h
    refine ⟨_, pss_cons (ps_set (i := 3) scRing.nd rfl (Or.inl rfl) (pe_ix ix_list (pv 1) (pe_bm PySem.F.plainAttrs_list PySem.F.slot_list_index PySem.F.type_list_index mt_index (pv 2) (pa_cons pe_bl pa_nil)) (fun _ _ => rfl)))
      (pss_cons (ps_set (i := 4) scRing.nd rfl (Or.inl rfl) (pe_lst pa_nil))
      (pss_cons (ps_while PassesOwn.never (pt_cmpR op_notIn_seq (pv 3) (pv 4) (by rfl))
        (pss_cons (ps_expr (pe_bm PySem.F.plainAttrs_list PySem.F.slot_list_append PySem.F.type_list_append mt_append (pv 4) (pa_cons (pv 3) pa_nil)))
        (pss_one (ps_set (i := 3) scRing.nd rfl (Or.inl rfl) (pe_ix ix_list (pv 1) (pe_call GD hr (by rfl) mD kD bD .nil pass0 (pa_cons (pe_ix ix_list (pv 0) (pv 3) (fun _ _ => rfl)) (pa_cons (pv 2) pa_nil))) (fun _ _ => rfl))))))
      (pss_one (ps_ret (pe_slice sl_list (pv 4) (po_some (pe_bm PySem.F.plainAttrs_list PySem.F.slot_list_index PySem.F.type_list_index mt_index (pv 4) (pa_cons (pv 3) pa_nil))) po_none))))), ?_⟩
    -- the first that's left
    obtain ⟨x0, hx0⟩ := hx
    obtain ⟨j, _, hj, hmin⟩ := least_of (P := fun x => left[x]? = some true) x0 hx0
    have hjl : j < left.length := (List.getElem?_eq_some_iff.mp hj).1
    have hjn : j < n := by omega
    refine ⟨_, rfl, _, rfl, .inl ⟨rfl, _, hL⟩, l, bv left, .bl true, j, .bl true, rfl, rfl, hL, rfl, bv_flat left, bv_at hj, rfl, fun m z hm hz => ?_, ?_⟩
    · have hml : m < left.length := by omega
      have e : left[m]? = some (left[m]) := List.getElem?_eq_getElem hml
      have e2 := bv_at e
      rw [hz] at e2
      cases Option.some.inj e2
      show (left[m] == true) = false
      cases c : left[m]
      · rfl
      · rw [c] at e
        exact absurd e (hmin m hm)
    have oLen : owners.length = n := by rw [hS.len, hE.len]
    have oAt : ∀ x, x < n → owners[x]? = some (owners.getD x 0) := fun x hx => by
      rw [List.getD_eq_getElem?_getD, List.getElem?_eq_getElem (by omega)]
      rfl
    refine ⟨o, iv owners, (j : Int), _, rfl, rfl, hO, at_of rfl (iv_at (oAt j hjn)), ?_⟩
    -- whom one begins with
    have hs : owners.getD j 0 ∈ there n own left := by
      rw [hS.owner hE hjn]
      have hin := hE.all j hjn
      have h1 := holder_lt hin
      rw [hE.len] at h1
      refine mem_there.mpr ⟨h1, ?_⟩
      rw [holder_has hin, List.getD_eq_getElem?_getD, hj]
      rfl
    generalize hse : owners.getD j 0 = s0 at hs
    have LK := looks_Looks hW hE
    have hT : ∀ i ∈ there n own left, i < n := fun i hi => (mem_there.mp hi).1
    have hg := LK.mem _ hT
    have tlen : (there n own left).length ≤ n := by
      unfold there
      exact Nat.le_trans (List.length_filter_le ..) (by rw [List.length_range]; exact Nat.le_refl _)
    -- walked = []
    refine ⟨Nat.zero_le _, fun g ng => ?_⟩
    have s1 := same_upd (o := .lst []) ng
    refine ⟨fun m σ H' => ∃ c, m = n - c ∧ (trail (looks ws own (there n own left)) s0 c).Nodup ∧ σ = [some (.ref a), some (.ref o), some (.ref l), some (.int ((steps (looks ws own (there n own left)) c s0 : Nat) : Int)), some (.ref g)] ∧ Same H H' ∧
        H' g = some (.lst (iv (trail (looks ws own (there n own left)) s0 c))), ⟨n, 0, rfl, List.nodup_nil, rfl, s1, upd_same⟩, ?_⟩
    rintro m σ H' ⟨c, rfl, hnd, rfl, s5, hgL⟩
    have hcur := steps_in hg c s0 hs
    have hcn := Nat.le_trans (trail_nodup_le hg hs hnd) tlen
    refine ⟨_, rfl, _, rfl, g, _, rfl, .inl (SqL.of hgL), rfl, iv_flat _, _, rfl, ?_⟩
    show if (!inV (.int ((steps (looks ws own (there n own left)) c s0 : Nat) : Int)) (iv (trail (looks ws own (there n own left)) s0 c))) = true then _ else _
    rw [inV_iv]
    refine ite2 (fun cN => ?_) (fun cN => ?_)
    · -- one more
      have hnot : steps (looks ws own (there n own left)) c s0 ∉ trail (looks ws own (there n own left)) s0 c := fun z => by
        rw [List.contains_iff_mem.mpr z] at cN
        cases cN
      have hnd' := trail_nodup_succ hnd hnot
      have hcn' := Nat.le_trans (trail_nodup_le hg hs hnd') tlen
      refine ⟨fun σ H' => σ = [some (.ref a), some (.ref o), some (.ref l), some (.int ((steps (looks ws own (there n own left)) (c + 1) s0 : Nat) : Int)), some (.ref g)] ∧ Same H H' ∧
        H' g = some (.lst (iv (trail (looks ws own (there n own left)) s0 (c + 1)))), fun σ' H'' hN => ⟨n - (c + 1), by omega, c + 1, rfl, hnd', hN⟩, ?_⟩
      refine ⟨.ref g, rfl, .inl ⟨rfl, _, SqL.of hgL⟩, _, rfl, g, _, _, rfl, rfl, hgL, small1000 (by rw [iv_len, trail_len]; omega), ?_⟩
      have s6 := same_put (o := .lst (iv (trail (looks ws own (there n own left)) s0 c) ++ [V.int ((steps (looks ws own (there n own left)) c s0 : Nat) : Int)])) ng s5
      obtain ⟨vs, cc, r1, r2, r3⟩ := (hA.same s6).read hW (hT _ hcur)
      obtain ⟨x, e1, e2, e3, _⟩ := looks_at hW hE hlen hS hcur
      have EW := hW.2 _ (hT _ hcur)
      refine ⟨_, rfl, _, rfl, _, rfl, a, vs, _, _, rfl, rfl, r1, at_of rfl r2, _, rfl, cc, l, _, left, x, rfl, r3, s6.seq hL, (fun y hy => by rw [hlen]; exact EW.lt y hy), (by rw [EW.len]; exact hn), e1, fun H2 s7 => ?_⟩
      refine ⟨o, iv owners, (x : Int), _, rfl, rfl, (s6.trans s7).seq hO, at_of rfl (iv_at (oAt x e2)), ?_⟩
      refine ⟨?_, s6.trans s7, ?_⟩
      · rw [e3, ← steps_succ (looks ws own (there n own left)) c s0]
        rfl
      · refine s7 _ _ ?_
        rw [upd_same, trail_succ]
        unfold iv
        rw [List.map_append]
        rfl
    · -- a ring
      have hin : steps (looks ws own (there n own left)) c s0 ∈ trail (looks ws own (there n own left)) s0 c := by
        cases z : (trail (looks ws own (there n own left)) s0 c).contains (steps (looks ws own (there n own left)) c s0)
        · rw [z] at cN
          exact absurd rfl cN
        · exact List.contains_iff_mem.mp z
      obtain ⟨i0, hi0⟩ := List.mem_iff_getElem?.mp hin
      obtain ⟨i, _, hi, himin⟩ := least_of (P := fun i => (trail (looks ws own (there n own left)) s0 c)[i]? = some (steps (looks ws own (there n own left)) c s0)) i0 hi0
      have hic : i < c := by
        have := (List.getElem?_eq_some_iff.mp hi).1
        rw [trail_len] at this
        exact this
      refine ⟨.ref g, rfl, .ref g, rfl, .inl ⟨rfl, _, SqL.of hgL⟩, _, rfl, g, _, _, i, _, rfl, rfl, SqL.of hgL, rfl, iv_flat _, iv_at hi, by rw [eqV_nat, beq_self_eq_true], fun m z hm hz => ?_, ?_⟩
      · obtain ⟨y, hy, rfl⟩ := iv_get hz
        rw [eqV_nat, beq_eq_false_iff_ne]
        intro e
        exact himin m hm (e ▸ hy)
      · refine ⟨(i : Int), rfl, g, _, rfl, SqL.of hgL, fun p np => ?_⟩
        refine q _ p ((trail (looks ws own (there n own left)) s0 c).drop i) (s5.trans (same_upd np)) (s5.free np) ?_ (trail_ring hg hs hic ?_) ?_
        · rw [upd_same, cut_from _ _ (by rw [trail_len]; omega)]
        · rw [trail_get hic] at hi
          exact Option.some.inj hi
        · rw [List.length_drop, trail_len]
          omega
end
end My
set_option Elab.async false
set_option maxRecDepth 100000
set_option maxHeartbeats 4000000
namespace My
open PySem PySem.Spec PyProof.Rows L2
open Rc57 (orderOf Wishes looks)
abbrev sTrade : Stmt := top 8
theorem scTrade : FnScope ["wishes", "own", "owners", "left", "given", "ring", "person"] ["wishes", "own"] (defScope sTrade) := ⟨rfl, rfl, rfl, by decide +kernel, rfl, by decide +kernel, by decide +kernel⟩
theorem getD_at {l : List Nat} {i : Nat} (h : i < l.length) : l[i]? = some (l.getD i 0) := by
  rw [List.getD_eq_getElem?_getD, List.getElem?_eq_getElem h]
  rfl
theorem any_true {l : List Bool} (h : l.any id = true) : ∃ x : Nat, l[x]? = some true := by
  obtain ⟨b, hb, e⟩ := List.any_eq_true.mp h
  obtain ⟨x, hx⟩ := List.mem_iff_getElem?.mp hb
  exact ⟨x, by rw [hx]; exact congrArg some e⟩
theorem any_false {l : List Bool} (h : ¬ l.any id = true) : ∀ x ∈ l, x = false := fun x hx => by
  cases x
  · rfl
  · exact absurd (List.any_eq_true.mpr ⟨true, hx, rfl⟩) h
section
variable {P : Program} {w : World} {K : PySem.W.Frag} {mg : Str → Option Value} {base : Heap}
/-- exchanged_round(wishes, own) -/
def spTrade (K : PySem.W.Frag) : Sp := fun vs H Q _ => ∃ (a b : Addr) (ws : Wishes) (own : List Nat) (n : Nat), vs = [.ref a, .ref b] ∧ Wsh K H a ws ∧ SqL K H b (iv own) ∧ RightW n ws ∧ Each n own ∧ n ≤ 1000 ∧
  ∀ H' p, Same H H' → H p = none → H' p = some (.lst (iv (Rc57.traded n ws own))) → Q (.ref p) H'
theorem ok_trade {f fD fR fO : Addr} {fd fdD fdR fdO : FuncData} {k kD kR kO : Nat} (F : Fun K "exchanged_round" "exchanged_round" sTrade f fd) (mLen : mg "len" = none) (mAny : mg "any" = none)
    (GD : FnOk P w K mg base CX0 kD fD fdD ["things", "left"] (spDear K)) (mD : mg "dearest" = some (.ref fD)) (pD : PySem.W.keepIn K (.ref fD) = true) (bD : Binds K fdD ["things", "left"] []) (lD : kD ≤ k)
    (GR : FnOk P w K mg base CX0 kR fR fdR ["wishes", "owners", "left"] (spRing K)) (mR : mg "some_ring" = some (.ref fR)) (pR : PySem.W.keepIn K (.ref fR) = true) (bR : Binds K fdR ["wishes", "owners", "left"] []) (lR : kR ≤ k)
    (GO : FnOk P w K mg base CX0 kO fO fdO ["own"] (spOwners K)) (mO : mg "owners_of" = some (.ref fO)) (pO : PySem.W.keepIn K (.ref fO) = true) (bO : Binds K fdO ["own"] []) (lO : kO ≤ k) :
    FnOk P w K mg base CX0 (k + 1) f fd ["wishes", "own"] (spTrade K) := by
  refine F.ok scTrade (fun vs H Q E h => ?_) (fun cdv A outer s H vs Q E hr h => ?_)
  · obtain ⟨a, b, _, _, _, rfl, _⟩ := h
    rfl
  · obtain ⟨a, b, ws, own, n, rfl, hA, hB, hW, hE, hn, q⟩ := h
    refine ⟨_, pss_cons (ps_set (i := 2) scTrade.nd rfl (Or.inl rfl) (pe_call GO (hr.mono lO) (by rfl) mO pO bO .nil pass0 (pa_cons (pv 1) pa_nil)))
      (pss_cons (ps_set (i := 3) scTrade.nd rfl (Or.inl rfl) (pe_op op_rep (pe_lst (pa_cons pe_bl pa_nil)) (pe_callB call_len_seq (by rfl) mLen PySem.boot_len (pa_cons (pv 1) pa_nil))))
      (pss_cons (ps_set (i := 4) scTrade.nd rfl (Or.inl rfl) (pe_op op_rep (pe_lst (pa_cons pe_int pa_nil)) (pe_callB call_len_seq (by rfl) mLen PySem.boot_len (pa_cons (pv 1) pa_nil))))
      (pss_cons (ps_while PassesOwn.never (pt_val (pe_callB (cr_any rfl) (by rfl) mAny (by decide +kernel) (pa_cons (pv 3) pa_nil)))
        (pss_cons (ps_set (i := 5) scTrade.nd rfl (Or.inl rfl) (pe_call GR (hr.mono lR) (by rfl) mR pR bR .nil pass0 (pa_cons (pv 0) (pa_cons (pv 2) (pa_cons (pv 3) pa_nil)))))
        (pss_cons (ps_for PassesOwn.never rfl (pi_list (pv 5)) (pg_name (i := 6) scTrade.nd rfl (Or.inl rfl))
          (pss_one (ps_asg (pe_call GD (hr.mono lD) (by rfl) mD pD bD .nil pass0 (pa_cons (pe_ix ix_list (pv 0) (pv 6) (fun _ _ => rfl)) (pa_cons (pv 3) pa_nil))) (pg_sub (pv 4) (pv 6) set_list))))
        (pss_one (ps_for PassesOwn.never rfl (pi_list (pv 5)) (pg_name (i := 6) scTrade.nd rfl (Or.inl rfl))
          (pss_one (ps_asg pe_bl (pg_sub (pv 3) (pe_ix ix_list (pv 1) (pv 6) (fun _ _ => rfl)) set_list))))))))
      (pss_one (ps_ret (pv 4)))))), ?_⟩
    -- owners
    refine ⟨_, rfl, b, own, n, rfl, hB, hE, hn, fun H0 o owners s0 no ho hS => ?_⟩
    have hB0 : SqL K H0 b (iv own) := s0.seq hB
    -- left = [True] * len(own)
    refine ⟨by decide, fun p1 n1 => ?_⟩
    have s1 := s0.trans (same_upd (o := .lst [V.bl true]) n1)
    refine ⟨_, rfl, b, _, rfl, .inl (s1.seq hB), p1, _, _, rfl, rfl, upd_same, by rw [iv_len, hE.len]; omega, by rw [iv_len, hE.len]; omega, ?_, fun l nl => ?_⟩
    · rw [iv_len, hE.len]
      show 1 * ((n : Int)).toNat ≤ sizeLine
      exact Nat.le_of_lt (small1000 (by omega))
    rw [iv_len, hE.len, Int.toNat_natCast, rep_bl]
    have s2 := s1.trans (same_upd (o := .lst (bv (List.replicate n true))) nl)
    have nl0 : H l = none := s1.free nl
    -- given = [0] * len(own)
    refine ⟨by decide, fun p2 n2 => ?_⟩
    have s3 := s2.trans (same_upd (o := .lst [V.int 0]) n2)
    refine ⟨_, rfl, b, _, rfl, .inl (s3.seq hB), p2, _, _, rfl, rfl, upd_same, by rw [iv_len, hE.len]; omega, by rw [iv_len, hE.len]; omega, ?_, fun g ng => ?_⟩
    · rw [iv_len, hE.len]
      show 1 * ((n : Int)).toNat ≤ sizeLine
      exact Nat.le_of_lt (small1000 (by omega))
    rw [iv_len, hE.len, Int.toNat_natCast, show V.int 0 = V.int ((0 : Nat) : Int) from rfl, rep_int]
    have s4 := s3.trans (same_upd (o := .lst (iv (List.replicate n 0))) ng)
    have ng0 : H g = none := s3.free ng
    have l2 : l ≠ p2 := ne_of_none upd_same n2
    have lg : l ≠ g := ne_of_none (by rw [upd_ne l2]; exact upd_same) ng
    have o1 : o ≠ p1 := ne_of_none ho n1
    have ho1 : (upd H0 p1 (HO.lst [V.bl true])) o = some (.lst (iv owners)) := by rw [upd_ne o1]; exact ho
    have ol : o ≠ l := ne_of_none ho1 nl
    have ho2 : (upd (upd H0 p1 (HO.lst [V.bl true])) l (HO.lst (bv (List.replicate n true)))) o = some (.lst (iv owners)) := by rw [upd_ne ol]; exact ho1
    have o2 : o ≠ p2 := ne_of_none ho2 n2
    have ho3 : (upd (upd (upd H0 p1 (HO.lst [V.bl true])) l (HO.lst (bv (List.replicate n true)))) p2 (HO.lst [V.int 0])) o = some (.lst (iv owners)) := by rw [upd_ne o2]; exact ho2
    have og : o ≠ g := ne_of_none ho3 ng
    have ho4 : (upd (upd (upd (upd H0 p1 (HO.lst [V.bl true])) l (HO.lst (bv (List.replicate n true)))) p2 (HO.lst [V.int 0])) g (HO.lst (iv (List.replicate n 0)))) o = some (.lst (iv owners)) := by rw [upd_ne og]; exact ho3
    have LK := looks_Looks hW hE
    -- while any(left)
    refine ⟨fun m σ H' => ∃ (x5 x6 : Option V) (left : List Bool) (given : List Nat), m = (there n own left).length ∧ σ = [some (.ref a), some (.ref b), some (.ref o), some (.ref l), some (.ref g), x5, x6] ∧ Same H H' ∧
        H' o = some (.lst (iv owners)) ∧ H' l = some (.lst (bv left)) ∧ H' g = some (.lst (iv given)) ∧ TradeInv n ws own left given,
      ⟨_, none, none, _, _, rfl, rfl, s4, ho4, by rw [upd_ne lg, upd_ne l2]; exact upd_same, upd_same, TradeInv.start hE⟩, ?_⟩
    rintro m σ H' ⟨x5, x6, left, given, rfl, rfl, s5, hoL, hl, hg, hT⟩
    refine ⟨_, rfl, l, left, rfl, SqL.of hl, _, rfl, ?_⟩
    refine ite2 (fun c => ?_) (fun c => ?_)
    · -- ring = some_ring(wishes, owners, left)
      refine ⟨fun σ H' => ∃ (x5 x6 : Option V) (left' : List Bool) (given' : List Nat), σ = [some (.ref a), some (.ref b), some (.ref o), some (.ref l), some (.ref g), x5, x6] ∧ Same H H' ∧
        H' o = some (.lst (iv owners)) ∧ H' l = some (.lst (bv left')) ∧ H' g = some (.lst (iv given')) ∧ TradeInv n ws own left' given' ∧ (there n own left').length < (there n own left).length,
        fun σ' H'' ⟨y5, y6, left', given', e1, e2, e3, e4, e5, e6, e7⟩ => ⟨_, e7, y5, y6, left', given', rfl, e1, e2, e3, e4, e5, e6⟩, ?_⟩
      refine ⟨_, rfl, _, rfl, _, rfl, a, o, l, ws, own, owners, left, n, rfl, hA.same s5, SqL.of hoL, SqL.of hl, hW, hE, hS, hT.llen, any_true c, hn, fun H1 p r s6 np hp hr1 hrl => ?_⟩
      have np0 : H p = none := s5.free np
      have pl : p ≠ l := fun e => by rw [e, hl] at np; cases np
      have pg : p ≠ g := fun e => by rw [e, hg] at np; cases np
      have hrn : ∀ i ∈ r, i < n := fun i hi => (mem_there.mp (hr1.sub i hi)).1
      -- for person in ring: given[person] = ..
      refine ⟨_, rfl, p, rfl, ⟨_, SqL.of hp⟩, for_list (K := K) (a := p) (xs := iv r) (fun i σ H' => ∃ (x6 : Option V) (given1 : List Nat), σ = [some (.ref a), some (.ref b), some (.ref o), some (.ref l), some (.ref g), some (.ref p), x6] ∧ Same H H' ∧
          H' o = some (.lst (iv owners)) ∧ H' l = some (.lst (bv left)) ∧ H' g = some (.lst (iv given1)) ∧ H' p = some (.lst (iv r)) ∧ given1.length = n ∧
          (∀ z ∈ r.take i, given1.getD z 0 = own.getD (looks ws own (there n own left) z) 0) ∧ (∀ z, z < n → z ∉ r.take i → given1.getD z 0 = given.getD z 0))
        ⟨x6, given, rfl, s5.trans s6, s6 _ _ hoL, s6 _ _ hl, s6 _ _ hg, hp, hT.glen, fun z hz => absurd hz List.not_mem_nil, fun z _ _ => rfl⟩ (fun i σ H' _ ⟨_, _, _, _, _, _, _, e, _⟩ => SqL.of e) ?_ ?_⟩
      · rintro i y σ H2 hi ⟨y6, given1, rfl, s7, e1, e2, e3, e4, e5, e6, e7⟩
        obtain ⟨z, hz, rfl⟩ := iv_get hi
        have hzr : z ∈ r := List.mem_of_getElem? hz
        have hzn := hrn z hzr
        obtain ⟨vs, cc, r1, r2, r3⟩ := (hA.same s7).read hW hzn
        obtain ⟨x, f1, f2, _, f4⟩ := looks_at hW hE hT.llen hS (hr1.sub z hzr)
        have EW := hW.2 z hzn
        refine ⟨_, rfl, _, rfl, a, vs, (z : Int), _, rfl, rfl, r1, at_of rfl r2, _, rfl, cc, l, _, left, x, rfl, r3, SqL.of e2, (fun y hy => by rw [hT.llen]; exact EW.lt y hy), (by rw [EW.len]; exact hn), f1, fun H3 s8 => ?_⟩
        refine ⟨_, rfl, _, rfl, g, iv given1, _, z, rfl, rfl, s8 _ _ e3, ixN_nat (by rw [iv_len, e5]; exact hzn), ?_⟩
        refine ⟨_, given1.set z x, rfl, same_put ng0 (s7.trans s8), ?_, ?_, ?_, ?_, by rw [List.length_set]; exact e5, fun u hu => ?_, fun u hu hun => ?_⟩
        · rw [upd_ne og]; exact s8 _ _ e1
        · rw [upd_ne lg]; exact s8 _ _ e2
        · rw [upd_same, iv_set]
        · rw [upd_ne pg]; exact s8 _ _ e4
        · rw [getD_set_nat (by rw [e5]; exact hzn)]
          by_cases cu : u = z
          · rw [if_pos cu, cu, f4]
          · rw [if_neg cu]
            refine e6 u ?_
            rw [take_more hz] at hu
            rcases List.mem_append.mp hu with hu | hu
            · exact hu
            · exact absurd (List.mem_singleton.mp hu) cu
        · rw [take_more hz] at hun
          rw [getD_set_nat (by rw [e5]; exact hzn), if_neg (show ¬ u = z from fun e => hun (List.mem_append_right _ (List.mem_singleton.mpr e)))]
          exact e7 u hu fun q => hun (List.mem_append_left _ q)
      · rintro σ H2 ⟨y6, given1, rfl, s7, e1, e2, e3, e4, e5, e6, e7⟩
        rw [iv_len, List.take_length] at e6 e7
        -- for person in ring: left[own[person]] = False
        refine ⟨_, rfl, p, rfl, ⟨_, SqL.of e4⟩, for_list (K := K) (a := p) (xs := iv r) (fun i σ H' => ∃ (x6 : Option V) (left1 : List Bool), σ = [some (.ref a), some (.ref b), some (.ref o), some (.ref l), some (.ref g), some (.ref p), x6] ∧ Same H H' ∧
            H' o = some (.lst (iv owners)) ∧ H' l = some (.lst (bv left1)) ∧ H' g = some (.lst (iv given1)) ∧ H' p = some (.lst (iv r)) ∧ left1.length = n ∧
            (∀ x, x < n → left1.getD x false = (left.getD x false && !((r.take i).map fun j => own.getD j 0).contains x)))
          ⟨y6, left, rfl, s7, e1, e2, e3, e4, hT.llen, fun x _ => (Bool.and_true _).symm⟩ (fun i σ H' _ ⟨_, _, _, _, _, _, _, e, _⟩ => SqL.of e) ?_ ?_⟩
        · rintro i y σ H3 hi ⟨z6, left1, rfl, s8, d1, d2, d3, d4, d5, d6⟩
          obtain ⟨z, hz, rfl⟩ := iv_get hi
          have hzr : z ∈ r := List.mem_of_getElem? hz
          have hzn := hrn z hzr
          have hzo : z < own.length := by rw [hE.len]; exact hzn
          have hon : own.getD z 0 < n := hE.lt _ (getD_mem hzo)
          refine ⟨_, rfl, _, rfl, _, rfl, b, iv own, (z : Int), _, rfl, rfl, s8.seq hB, at_of rfl (iv_at (getD_at hzo)), ?_⟩
          refine ⟨l, bv left1, _, own.getD z 0, rfl, rfl, d2, ixN_nat (by rw [bv_len, d5]; exact hon), ?_⟩
          refine ⟨_, left1.set (own.getD z 0) false, rfl, same_put nl0 s8, ?_, ?_, ?_, ?_, by rw [List.length_set]; exact d5, fun x hx => ?_⟩
          · rw [upd_ne ol]; exact d1
          · rw [upd_same, bv_set]
          · rw [upd_ne lg.symm]; exact d3
          · rw [upd_ne pl]; exact d4
          · rw [getD_set_bool (by rw [d5]; exact hon), d6 x hx, take_more hz, List.map_append, Bool.eq_iff_iff]
            by_cases cx : x = own.getD z 0
            · rw [if_pos cx]
              constructor
              · intro e; cases e
              · intro e
                rw [Bool.and_eq_true] at e
                have : ((r.take i).map (fun j => own.getD j 0) ++ [z].map fun j => own.getD j 0).contains x = true :=
                  List.contains_iff_mem.mpr (List.mem_append_right _ (by rw [cx]; exact List.mem_singleton.mpr rfl))
                rw [this] at e
                exact absurd e.2 (by decide)
            · rw [if_neg cx]
              have : ((r.take i).map (fun j => own.getD j 0) ++ [z].map fun j => own.getD j 0).contains x = ((r.take i).map fun j => own.getD j 0).contains x := by
                rw [Bool.eq_iff_iff, List.contains_iff_mem, List.contains_iff_mem, List.mem_append]
                constructor
                · rintro (e | e)
                  · exact e
                  · exact absurd (List.mem_singleton.mp e) cx
                · exact Or.inl
              rw [this]
        · rintro σ H3 ⟨z6, left1, rfl, s8, d1, d2, d3, d4, d5, d6⟩
          rw [iv_len, List.take_length] at d6
          obtain ⟨t1, t2⟩ := hT.turn hE hr1 e5 e6 (fun i hi hn => e7 i hi hn) d5 d6
          exact ⟨_, _, left1, given1, rfl, s8, d1, d2, d3, t1, t2⟩
    · refine ⟨_, rfl, q H' g s5 ng0 ?_⟩
      rw [hg, hT.finish hW hE (any_false c)]
end
end My
set_option Elab.async false
set_option maxRecDepth 100000
set_option maxHeartbeats 4000000
namespace My
open PySem PySem.Spec PyProof.Rows L2
abbrev sApart : Stmt := top 37
theorem scApart : FnScope ["calls", "parts", "at", "number", "value", "row", "end"] ["calls"] (defScope sApart) := ⟨rfl, rfl, rfl, by decide +kernel, rfl, by decide +kernel, by decide +kernel⟩
/-- a tuple that the top has written -/
def TupK (K : PySem.W.Frag) (a : Addr) (xs : List V) : Prop :=
  ∃ (o : Obj) (its : Array Value) (n : Nat), K.lookup a = some o ∧ o.cls = .type "tuple" ∧ o.data = .seq its n ∧ its.size ≤ sizeLine ∧ Vals xs its.toList
theorem TupK.sq {K : PySem.W.Frag} {a : Addr} {xs : List V} (h : TupK K a xs) (H : Hp) : SqT K H a xs := .inr h
/-- a call as it lies: its number, its whole number, its row -/
structure PartAt (H0 H : Hp) (v : V) (c : RCall) : Prop where
  ex : ∃ t r, v = .ref t ∧ H t = some (.tup [.int (pNum c), .int (pVal c), .ref r]) ∧ H r = some (.lst ((pRow c).map V.int)) ∧ H0 t = none ∧ H0 r = none
theorem PartAt.same {H0 H H' : Hp} {v : V} {c : RCall} (h : PartAt H0 H v c) (s : Same H H') : PartAt H0 H' v c := by
  obtain ⟨t, r, e, h1, h2, h3, h4⟩ := h.ex
  exact ⟨t, r, e, s _ _ h1, s _ _ h2, h3, h4⟩
theorem cut_two (ns : List Int) (i m : Nat) (h : i + m ≤ ns.length) : cutV (ns.map V.int) (some (i : Int)) (some ((i + m : Nat) : Int)) = ((ns.drop i).take m).map V.int := by
  unfold cutV
  rw [show HT.sIx (ns.map V.int).length 0 (some (i : Int)) = min i (ns.map V.int).length from HT.sIx_nat _ 0 i,
    show HT.sIx (ns.map V.int).length (ns.map V.int).length (some ((i + m : Nat) : Int)) = min (i + m) (ns.map V.int).length from HT.sIx_nat _ _ (i + m), List.length_map, Nat.min_eq_left h, Nat.min_eq_left (by omega : i ≤ ns.length)]
  rw [List.map_take, List.map_drop, show i + m - i = m by omega]
theorem ints_at {ns : List Int} {i : Nat} {z : Int} (h : ns[i]? = some z) : (ns.map V.int)[i]? = some (V.int z) := by
  rw [List.getElem?_map, h]
  rfl
section
variable {P : Program} {w : World} {K : PySem.W.Frag} {mg : Str → Option Value} {base : Heap}
/-- taken_apart(calls) -/
def spApart (K : PySem.W.Frag) : Sp := fun vs H Q _ => ∃ (a : Addr) (ns : List Int) (cs : List RCall), vs = [.ref a] ∧ SqL K H a (ns.map V.int) ∧ ns.length ≤ 30000 ∧ PyFlat.calls PyRc57.shape ns.length ns = some cs ∧
  ∀ (H' : Hp) (p : Addr) (us : List V), Same H H' → H p = none → H' p = some (.lst us) → us.length = cs.length → (∀ (i : Nat) (v : V) (c : RCall), us[i]? = some v → cs[i]? = some c → PartAt H H' v c) → Q (.ref p) H'
theorem ok_apart {f hv hr' : Addr} {fd : FuncData} {k : Nat} (F : Fun K "taken_apart" "taken_apart" sApart f fd) (mLen : mg "len" = none) (mV : mg "HAS_VALUE" = some (.ref hv)) (tV : TupK K hv (bv HV)) (mR : mg "HAS_ROW" = some (.ref hr')) (tR : TupK K hr' (bv HR)) :
    FnOk P w K mg base CX0 (k + 1) f fd ["calls"] (spApart K) := by
  refine F.ok scApart (fun vs H Q E h => ?_) (fun cdv A outer s H vs Q E hr h => ?_)
  · obtain ⟨a, _, _, rfl, _⟩ := h
    rfl
  · obtain ⟨a, ns, cs, rfl, hA, hlen, hcs, q⟩ := h
    refine ⟨_, pss_cons (ps_set (i := 1) scApart.nd rfl (Or.inl rfl) (pe_lst pa_nil))
      (pss_cons (ps_set (i := 2) scApart.nd rfl (Or.inl rfl) pe_int)
      (pss_cons (ps_while PassesOwn.never (pt_cmpR op_lt (pv 2) (pe_callB call_len_seq (by rfl) mLen PySem.boot_len (pa_cons (pv 0) pa_nil)) (nomark _))
        (pss_cons (ps_set (i := 3) scApart.nd rfl (Or.inl rfl) (pe_ix ix_list (pv 0) (pv 2) (fun _ _ => rfl)))
        (pss_cons (ps_aug (i := 2) scApart.nd rfl (Or.inl rfl) pe_int ip_add)
        (pss_cons (ps_set (i := 4) scApart.nd rfl (Or.inl rfl) pe_int)
        (C8.pss_cut (ps_if (pt_val (pe_ix ix_tup (pe_glob (v := .ref hv) (by rfl) mV rfl) (pv 3) (fun _ _ => rfl)))
            (pss_cons (ps_set (i := 4) scApart.nd rfl (Or.inl rfl) (pe_ix ix_list (pv 0) (pv 2) (fun _ _ => rfl)))
            (pss_one (ps_aug (i := 2) scApart.nd rfl (Or.inl rfl) pe_int ip_add))) pss_nil)
        (pss_cons (ps_set (i := 5) scApart.nd rfl (Or.inl rfl) (pe_lst pa_nil))
        (C8.pss_cut (ps_if (pt_val (pe_ix ix_tup (pe_glob (v := .ref hr') (by rfl) mR rfl) (pv 3) (fun _ _ => rfl)))
            (pss_cons (ps_set (i := 6) scApart.nd rfl (Or.inl rfl) (pe_op op_add (pe_op op_add (pv 2) pe_int) (pe_ix ix_list (pv 0) (pv 2) (fun _ _ => rfl))))
            (pss_cons (ps_set (i := 5) scApart.nd rfl (Or.inl rfl) (pe_slice sl_list (pv 0) (po_some (pe_op op_add (pv 2) pe_int)) (po_some (pv 6))))
            (pss_one (ps_set (i := 2) scApart.nd rfl (Or.inl rfl) (pv 6))))) pss_nil)
        (pss_one (ps_expr (pe_bm PySem.F.plainAttrs_list PySem.F.slot_list_append PySem.F.type_list_append mt_append (pv 1) (pa_cons (pe_tup (pa_cons (pv 3) (pa_cons (pv 4) (pa_cons (pv 5) pa_nil)))) pa_nil)))))))))))
      (pss_one (ps_ret (pv 1))))), ?_⟩
    refine ⟨Nat.zero_le _, fun g ng => ?_⟩
    have s1 := same_upd (o := .lst []) ng
    refine ⟨fun m σ H' => ∃ (i : Nat) (x3 x4 x5 x6 : Option V) (done : List RCall) (us : List V), m = ns.length - i ∧ σ = [some (.ref a), some (.ref g), some (.int (i : Int)), x3, x4, x5, x6] ∧ Same H H' ∧
        H' g = some (.lst us) ∧ us.length = done.length ∧ (∀ (j : Nat) (v : V) (c : RCall), us[j]? = some v → done[j]? = some c → PartAt (upd H g (.lst [])) H' v c) ∧ Apart ns cs i done,
      ⟨_, 0, none, none, none, none, [], [], rfl, rfl, s1, upd_same, rfl, fun j v c e => (by cases e), Apart.start hcs⟩, ?_⟩
    rintro m σ H' ⟨i, x3, x4, x5, x6, done, us, rfl, rfl, s5, hg, hul, hpt, hP⟩
    refine ⟨_, rfl, _, rfl, a, _, rfl, .inl (s5.seq hA), _, _, rfl, rfl, _, rfl, ?_⟩
    refine ite2 (fun c => ?_) (fun c => ?_)
    · have hi : i < ns.length := by
        have := of_decide_eq_true c
        rw [List.length_map] at this
        omega
      obtain ⟨j, n, kk, v, row, cc, i', f1, f2, f3, f4, f5, f6, f7, f8, f9, f10, f11, f12, f13⟩ := hP.turn hi
      have hii : i < i' := by
        have : kk = 0 ∨ kk = 1 := by omega
        rcases this with z | z
        · have := (f11 z).2; omega
        · obtain ⟨m, _, _, e, _⟩ := f12 z; omega
      have gne : ∀ p, H' p = none → g ≠ p := fun p hp e => by rw [e] at hg; rw [hg] at hp; cases hp
      refine ⟨fun σ H' => ∃ (x3 x4 x5 x6 : Option V) (us : List V), σ = [some (.ref a), some (.ref g), some (.int (i' : Int)), x3, x4, x5, x6] ∧ Same H H' ∧
        H' g = some (.lst us) ∧ us.length = (done ++ [cc]).length ∧ (∀ (j : Nat) (v : V) (c : RCall), us[j]? = some v → (done ++ [cc])[j]? = some c → PartAt (upd H g (.lst [])) H' v c),
        fun σ' H'' ⟨y3, y4, y5, y6, us', e1, e2, e3, e4, e5⟩ => ⟨ns.length - i', by have := f13.le; omega, i', y3, y4, y5, y6, _, us', rfl, e1, e2, e3, e4, e5, f13⟩, ?_⟩
      -- number = calls[at]; at += 1; value = 0
      refine ⟨_, rfl, _, rfl, a, _, (i : Int), _, rfl, rfl, s5.seq hA, at_of rfl (ints_at f1), ?_⟩
      refine ⟨_, rfl, _, _, rfl, rfl, ?_⟩
      -- if HAS_VALUE[number]
      refine ⟨fun σ H2 => H2 = H' ∧ σ = [some (.ref a), some (.ref g), some (.int ((i + 1 + n : Nat) : Int)), some (.int (j : Int)), some (.int v), x5, x6], ?_, ?_⟩
      · refine ⟨_, rfl, hv, _, (j : Int), _, rfl, rfl, tV.sq _, at_of rfl (bv_at f2), _, rfl, ?_⟩
        refine ite2 (fun c2 => ?_) (fun c2 => ?_)
        · have hn : n = 1 := of_decide_eq_true c2
          refine ⟨_, rfl, _, rfl, a, _, ((i + 1 : Nat) : Int), _, rfl, rfl, s5.seq hA, at_of rfl (ints_at (f10 hn)), ?_⟩
          refine ⟨_, rfl, _, _, rfl, rfl, rfl, ?_⟩
          subst hn
          rfl
        · have hn : n = 0 := by
            have : ¬ n = 1 := fun z => c2 (decide_eq_true z)
            omega
          refine ⟨rfl, ?_⟩
          have := f9 hn
          subst hn
          subst this
          rfl
      · rintro σ H2 ⟨rfl, rfl⟩
        refine ⟨Nat.zero_le _, fun r0 nr0 => ?_⟩
        have s6 := s5.trans (same_upd (o := .lst []) nr0)
        -- if HAS_ROW[number]
        refine ⟨fun σ H3 => ∃ (y6 : Option V) (r : Addr), σ = [some (.ref a), some (.ref g), some (.int (i' : Int)), some (.int (j : Int)), some (.int v), some (.ref r), y6] ∧ Same H H3 ∧ Same H2 H3 ∧ H2 r = none ∧ H3 r = some (.lst (row.map V.int)), ?_, ?_⟩
        · refine ⟨_, rfl, hr', _, (j : Int), _, rfl, rfl, tR.sq _, at_of rfl (bv_at f3), _, rfl, ?_⟩
          refine ite2 (fun c2 => ?_) (fun c2 => ?_)
          · have hk : kk = 1 := of_decide_eq_true c2
            obtain ⟨m, g1, g2, g3, g4⟩ := f12 hk
            -- end = at + 1 + calls[at]
            refine ⟨_, rfl, _, _, rfl, rfl, _, rfl, _, rfl, a, _, ((i + 1 + n : Nat) : Int), _, rfl, rfl, s6.seq hA, at_of rfl (ints_at g1), _, _, rfl, rfl, ?_⟩
            -- row = calls[at + 1:end]
            refine ⟨_, rfl, _, rfl, _, _, rfl, rfl, _, rfl, _, rfl, _, rfl, a, _, rfl, s6.seq hA, fun r nr => ?_⟩
            refine ⟨_, rfl, some (V.int (((i + 1 + n : Nat) : Int) + 1 + (m : Int))), r, ?_, s6.trans (same_upd nr), (same_upd nr0).trans (same_upd nr), ?_, ?_⟩
            · rw [g3]
              rfl
            · exact (same_upd nr0).free nr
            · rw [upd_same]
              have e1 : ((i + 1 + n : Nat) : Int) + 1 = ((i + 1 + n + 1 : Nat) : Int) := by omega
              have e2 : ((i + 1 + n : Nat) : Int) + 1 + (m : Int) = ((i + 1 + n + 1 + m : Nat) : Int) := by omega
              show some (HO.lst (cutV (ns.map V.int) (some (((i + 1 + n : Nat) : Int) + 1)) (some (((i + 1 + n : Nat) : Int) + 1 + (m : Int))))) = _
              rw [e2, e1, cut_two ns _ m g4, g2]
          · have hk : kk = 0 := by
              have : ¬ kk = 1 := fun z => c2 (decide_eq_true z)
              omega
            obtain ⟨g1, g2⟩ := f11 hk
            refine ⟨x6, r0, ?_, s6, same_upd nr0, nr0, ?_⟩
            · rw [g2]
              rfl
            · rw [upd_same, g1]
              rfl
        · rintro σ H3 ⟨y6, r, rfl, s7, s8, nr, hr3⟩
          have hg3 := s8 _ _ hg
          refine ⟨.ref g, rfl, .inl ⟨rfl, _, SqL.of hg3⟩, _, rfl, _, rfl, _, rfl, (by show 3 ≤ sizeLine; decide), fun t nt => ?_⟩
          have gt : g ≠ t := ne_of_none hg3 nt
          have hgt : (upd H3 t (.tup [.int (j : Int), .int v, .ref r])) g = some (.lst us) := by rw [upd_ne gt]; exact hg3
          refine ⟨g, us, _, rfl, rfl, hgt, ?_, ?_⟩
          · have := hP.most
            exact Nat.lt_of_lt_of_le (show us.length < 30001 by omega) (by decide)
          · have sT : Same H3 (upd H3 t (.tup [.int (j : Int), .int v, .ref r])) := same_upd nt
            have rg : r ≠ g := fun e => by rw [e, hg] at nr; cases nr
            have tg : t ≠ g := gt.symm
            have rt : r ≠ t := ne_of_none hr3 nt
            refine ⟨_, _, _, _, us ++ [.ref t], rfl, same_put ng (s7.trans sT), upd_same, by rw [List.length_append, List.length_append, hul]; rfl, fun jj u c3 e1 e2 => ?_⟩
            by_cases cj : jj < us.length
            · rw [List.getElem?_append_left cj] at e1
              rw [List.getElem?_append_left (by omega)] at e2
              obtain ⟨t', r', q1, q2, q3, q4, q5⟩ := (hpt jj u c3 e1 e2).ex
              have tg' : t' ≠ g := fun e => by rw [e, upd_same] at q4; cases q4
              have rg' : r' ≠ g := fun e => by rw [e, upd_same] at q5; cases q5
              refine ⟨t', r', q1, ?_, ?_, q4, q5⟩
              · rw [upd_ne tg']; exact sT _ _ (s8 _ _ q2)
              · rw [upd_ne rg']; exact sT _ _ (s8 _ _ q3)
            · have : jj = us.length := by
                have := (List.getElem?_eq_some_iff.mp e1).1
                rw [List.length_append] at this
                have : ([V.ref t] : List V).length = 1 := rfl
                omega
              subst this
              rw [List.getElem?_append_right (Nat.le_refl _), Nat.sub_self] at e1
              rw [hul, List.getElem?_append_right (Nat.le_refl _), Nat.sub_self] at e2
              have e1' : V.ref t = u := Option.some.inj e1
              have e2' : cc = c3 := Option.some.inj e2
              subst e1'
              subst e2'
              refine ⟨t, r, rfl, ?_, ?_, ?_, ?_⟩
              · rw [upd_ne tg, upd_same, f6, f7]
              · rw [upd_ne rg, upd_ne rt, f8]; exact hr3
              · rw [upd_ne tg]; exact s7.free nt
              · rw [upd_ne rg]; exact s5.free nr
    · have e := hP.finish (by
        have : ¬ ((i : Int) < ((ns.map V.int).length : Int)) := fun z => c (decide_eq_true z)
        rw [List.length_map] at this
        omega)
      subst e
      refine ⟨_, rfl, q H' g us s5 ng hg hul fun j v c e1 e2 => ?_⟩
      obtain ⟨t, r, q1, q2, q3, q4, q5⟩ := (hpt j v c e1 e2).ex
      exact ⟨t, r, q1, q2, q3, s1.free q4, s1.free q5⟩
end
end My
set_option Elab.async false
set_option maxRecDepth 100000
set_option maxHeartbeats 4000000
namespace My
open PySem PySem.Spec PyProof.Rows L2
open Rc57 (orderOf Wishes looks)
abbrev sCirc : Stmt := top 35
abbrev sInit : Stmt := inClass sCirc 0
abbrev sGather : Stmt := inClass sCirc 1
abbrev sSize : Stmt := inClass sCirc 2
abbrev sKnown : Stmt := inClass sCirc 3
theorem scInit : FnScope ["self"] ["self"] (defScope sInit) := ⟨rfl, rfl, rfl, by decide +kernel, rfl, by decide +kernel, by decide +kernel⟩
theorem scGather : FnScope ["self", "size"] ["self", "size"] (defScope sGather) := ⟨rfl, rfl, rfl, by decide +kernel, rfl, by decide +kernel, by decide +kernel⟩
theorem scSize : FnScope ["self"] ["self"] (defScope sSize) := ⟨rfl, rfl, rfl, by decide +kernel, rfl, by decide +kernel, by decide +kernel⟩
theorem scKnown : FnScope ["self"] ["self"] (defScope sKnown) := ⟨rfl, rfl, rfl, by decide +kernel, rfl, by decide +kernel, by decide +kernel⟩
/-! ### the circle, as it lies -/
def cF (wl : Addr) : List (Str × V) := [("wishes", .ref wl)]
theorem cF_wishes (wl : Addr) : (cF wl).lookup ("wishes" : Str) = some (.ref wl) := by
  have e : (("wishes" : Str) == "wishes") = true := by decide +kernel
  unfold cF
  simp only [List.lookup, e]
theorem cF_none {m : Str} (wl : Addr) (h : (m == ("wishes" : Str)) = false) : (cF wl).lookup m = none := by
  unfold cF
  simp only [List.lookup, h]
theorem cF_put (wl y : Addr) : putF "wishes" (.ref y) (cF wl) = cF y := by
  unfold cF
  show (if (("wishes" : Str) = "wishes") then _ else _) = _
  rw [if_pos rfl]
/-- one person's wishes: not told (an empty list), or a list that holds all -/
inductive WishIs (gd : Addr) (H : Hp) (n : Nat) : V → List Nat → Prop where
  | non : WishIs gd H n .non []
  | lst {r : Addr} {l : List Nat} : H r = some (.lst (iv l)) → Each n l → r ≠ gd → WishIs gd H n (.ref r) l
structure CircAt (C gd : Addr) (H : Hp) (c wl : Addr) (s : Rc57.Abs) : Prop where
  obj : ∃ dx, H c = some (.ins C dx (cF wl))
  ex : ∃ vs, H wl = some (.lst vs) ∧ vs.length = s.n ∧ ∀ (i : Nat) (v : V) (l : List Nat), vs[i]? = some v → (s.wishes : List (List Nat))[i]? = some l → WishIs gd H s.n v l
  len : s.wishes.length = s.n
  most : s.n ≤ 5
theorem WishIs.same {gd : Addr} {H H' : Hp} {n : Nat} {v : V} {l : List Nat} (h : WishIs gd H n v l) (s : Same H H') : WishIs gd H' n v l := by
  cases h with
  | non => exact .non
  | lst a b d => exact .lst (s _ _ a) b d
theorem CircAt.same {C gd : Addr} {H H' : Hp} {c wl : Addr} {s : Rc57.Abs} (h : CircAt C gd H c wl s) (z : Same H H') : CircAt C gd H' c wl s := by
  obtain ⟨dx, e⟩ := h.obj
  obtain ⟨vs, e1, e2, e3⟩ := h.ex
  exact ⟨⟨dx, z _ _ e⟩, ⟨vs, z _ _ e1, e2, fun i v l a b => (e3 i v l a b).same z⟩, h.len, h.most⟩
theorem CircAt.ne {C gd : Addr} {H : Hp} {c wl : Addr} {s : Rc57.Abs} (h : CircAt C gd H c wl s) : c ≠ wl := by
  obtain ⟨dx, e⟩ := h.obj
  obtain ⟨vs, e1, _⟩ := h.ex
  exact ne_of e e1 (by intro z; cases z)
/-- what the top has written of the class -/
structure Txt (K : PySem.W.Frag) (mg : Str → Option Value) (C : Addr) : Prop where
  cl : Cls K C
  nW : NoAttr K C "wishes"
section
variable {P : Program} {w : World} {K : PySem.W.Frag} {mg : Str → Option Value} {base : Heap} {C : Addr}
/-- __init__ -/
def spInit (C : Addr) : Sp := fun vs H Q _ => ∃ (c dx : Addr), vs = [.ref c] ∧ H c = some (.ins C dx []) ∧
  ∀ (H' : Hp) (wl : Addr), (∀ gd, CircAt C gd H' c wl {}) → H wl = none → (∀ b o, H b = some o → b ≠ c → H' b = some o) → Q .non H'
theorem ok_init {f : Addr} {fd : FuncData} {k : Nat} (F : Fun K "__init__" "Circle.__init__" sInit f fd) (T : Txt K mg C) : FnOk P w K mg base CX0 (k + 1) f fd ["self"] (spInit C) := by
  refine F.ok scInit (fun vs H Q E h => ?_) (fun cdv A outer s H vs Q E hr h => ?_)
  · obtain ⟨c, dx, rfl, _⟩ := h
    rfl
  · obtain ⟨c, dx, rfl, hc, q⟩ := h
    refine ⟨_, pss_one (ps_fld (pv 0) (pe_lst pa_nil) rfl), ?_⟩
    refine ⟨Nat.zero_le _, fun g ng => ?_⟩
    have cg : c ≠ g := ne_of_none hc ng
    refine ⟨_, rfl, c, C, dx, [], rfl, by rw [upd_ne cg]; exact hc, T.cl, T.nW, by decide, ?_⟩
    refine q _ g (fun gd => ⟨⟨dx, upd_same⟩, ⟨[], ?_, rfl, fun i v l a => by cases a⟩, rfl, Nat.zero_le _⟩) ng fun b o e hb => ?_
    · rw [upd_ne cg.symm, upd_same]
    · rw [upd_ne hb, upd_ne (ne_of_none e ng)]
      exact e
/-- gather(size): so many people, no wishes known -/
def spGather (C : Addr) : Sp := fun vs H Q _ => ∃ (c wl gd : Addr) (s : Rc57.Abs) (n : Nat), vs = [.ref c, .int (n : Int)] ∧ CircAt C gd H c wl s ∧ n ≤ 5 ∧
  ∀ (H' : Hp) (wl' : Addr), CircAt C gd H' c wl' { n := n, wishes := List.replicate n [] } → H wl' = none → (∀ b o, H b = some o → b ≠ c → H' b = some o) → Q .non H'
theorem rep_non (n : Nat) : (List.replicate n [V.non]).flatten = List.replicate n V.non := List.flatten_replicate_singleton
theorem ok_gather {f : Addr} {fd : FuncData} {k : Nat} (F : Fun K "gather" "Circle.gather" sGather f fd) (T : Txt K mg C) : FnOk P w K mg base CX0 (k + 1) f fd ["self", "size"] (spGather C) := by
  refine F.ok scGather (fun vs H Q E h => ?_) (fun cdv A outer s H vs Q E hr h => ?_)
  · obtain ⟨c, _, _, _, _, rfl, _⟩ := h
    rfl
  · obtain ⟨c, wl, gd, st, n, rfl, hC, hn, q⟩ := h
    obtain ⟨dx, hc⟩ := hC.obj
    refine ⟨_, pss_one (ps_fld (pv 0) (pe_op op_rep (pe_lst (pa_cons pe_non pa_nil)) (pv 1)) rfl), ?_⟩
    refine ⟨by decide, fun p1 n1 => ?_⟩
    have s1 := same_upd (o := .lst [V.non]) n1
    refine ⟨_, rfl, p1, _, _, rfl, rfl, upd_same, by omega, by omega, ?_, fun g ng => ?_⟩
    · show 1 * ((n : Int)).toNat ≤ sizeLine
      exact Nat.le_of_lt (small1000 (by omega))
    rw [Int.toNat_natCast, rep_non]
    have s2 := s1.trans (same_upd (o := .lst (List.replicate n V.non)) ng)
    have ng0 : H g = none := s1.free ng
    have cg : c ≠ g := ne_of_none hc ng0
    refine ⟨_, rfl, c, C, dx, cF wl, rfl, s2 _ _ hc, T.cl, T.nW, (by show 1 < 1000; decide), ?_⟩
    refine q _ g ⟨⟨dx, by rw [upd_same, cF_put]⟩, ⟨List.replicate n V.non, ?_, List.length_replicate, fun i v l a b => ?_⟩, List.length_replicate, hn⟩ ng0 fun b o e hb => ?_
    · rw [upd_ne cg.symm, upd_same]
    · have e1 := List.eq_of_mem_replicate (List.mem_of_getElem? a)
      have e2 := List.eq_of_mem_replicate (List.mem_of_getElem? b)
      subst e1
      subst e2
      exact .non
    · rw [upd_ne hb]
      exact s2 _ _ e
/-- size() -/
def spSize (C : Addr) : Sp := fun vs H Q _ => ∃ (c wl gd : Addr) (s : Rc57.Abs), vs = [.ref c] ∧ CircAt C gd H c wl s ∧ Q (.int (s.n : Int)) H
theorem ok_size {f : Addr} {fd : FuncData} {k : Nat} (F : Fun K "size" "Circle.size" sSize f fd) (T : Txt K mg C) (mLen : mg "len" = none) : FnOk P w K mg base CX0 (k + 1) f fd ["self"] (spSize C) := by
  refine F.ok scSize (fun vs H Q E h => ?_) (fun cdv A outer s H vs Q E hr h => ?_)
  · obtain ⟨c, _, _, _, rfl, _⟩ := h
    rfl
  · obtain ⟨c, wl, gd, st, rfl, hC, q⟩ := h
    obtain ⟨dx, hc⟩ := hC.obj
    obtain ⟨vs, h1, h2, _⟩ := hC.ex
    refine ⟨_, pss_one (ps_ret (pe_callB call_len_seq (by rfl) mLen PySem.boot_len (pa_cons (pe_fld (pv 0) rfl) pa_nil))), ?_⟩
    refine ⟨_, rfl, c, C, dx, _, _, rfl, hc, T.cl, T.nW, cF_wishes wl, wl, vs, rfl, .inl (SqL.of h1), ?_⟩
    rw [h2]
    exact q
/-- all_known() -/
def spKnown (C : Addr) : Sp := fun vs H Q _ => ∃ (c wl gd : Addr) (s : Rc57.Abs), vs = [.ref c] ∧ CircAt C gd H c wl s ∧ 0 < s.n ∧ Q (.bl (Rc57.all s)) H
theorem known_data {K : PySem.W.Frag} {gd : Addr} {H : Hp} {n : Nat} (hn : 0 < n) : ∀ (vs : List V) (ws : List (List Nat)), vs.length = ws.length → (∀ (i : Nat) (v : V) (l : List Nat), vs[i]? = some v → ws[i]? = some l → WishIs gd H n v l) →
    ∃ ds : List PyData, DpAll K H vs ds ∧ PyData.canLayAll0 ds = true ∧ PyData.depthAll ds ≤ 1 ∧ (!ds.any fun z => PyData.eqv z .none) = ws.all (Rc57.each n)
  | [], [], _, _ => ⟨[], .nil, rfl, by decide, rfl⟩
  | [], _ :: _, e, _ => by cases e
  | _ :: _, [], e, _ => by cases e
  | v :: vs, l :: ws, e, h => by
    obtain ⟨ds, d1, d2, d3, d4⟩ := known_data (K := K) (H := H) hn vs ws (Nat.succ.inj e) fun i v l a b => h (i + 1) v l a b
    cases h 0 v l rfl rfl with
    | non =>
      refine ⟨.none :: ds, .cons .non d1, by rw [PyData.canLayAll0, d2]; rfl, ?_, ?_⟩
      · rw [PyData.depthAll]
        exact Nat.max_le.mpr ⟨by rw [PyData.depth]; exact Nat.zero_le _, d3⟩
      · rw [List.all_cons, List.any_cons]
        have : Rc57.each n [] = false := by
          cases q : Rc57.each n []
          · rfl
          · have := (each_Each q).len
            rw [List.length_nil] at this
            omega
        rw [this]
        rfl
    | lst a b _ =>
      have hz : l.map (fun n : Nat => (n : Int)) = l.map (fun n : Nat => (n : Int)) := rfl
      refine ⟨.list ((l.map fun n : Nat => (n : Int)).map PyData.int) :: ds, .cons (.lst (SqL.of (by rw [a, iv_ints])) (dpAll_ints K H _)) d1, ?_, ?_, ?_⟩
      · rw [PyData.canLayAll0, d2, PyData.canLay0, lay_ints]
        rfl
      · rw [PyData.depthAll]
        refine Nat.max_le.mpr ⟨?_, d3⟩
        rw [PyData.depth, depthAll_ints]
        exact Nat.le_refl _
      · rw [List.all_cons, List.any_cons, b.each, ← d4]
        rfl
theorem un65 {k : Nat} {A : Around} (r : Room k A) : A.units + 65 < cLine := by
  have := r.un
  omega
theorem ok_known {f : Addr} {fd : FuncData} {k : Nat} (F : Fun K "all_known" "Circle.all_known" sKnown f fd) (T : Txt K mg C) : FnOk P w K mg base CX0 (k + 1) f fd ["self"] (spKnown C) := by
  refine F.ok scKnown (fun vs H Q E h => ?_) (fun cdv A outer s H vs Q E hr h => ?_)
  · obtain ⟨c, _, _, _, rfl, _⟩ := h
    rfl
  · obtain ⟨c, wl, gd, st, rfl, hC, hn, q⟩ := h
    obtain ⟨dx, hc⟩ := hC.obj
    obtain ⟨vs, h1, h2, h3⟩ := hC.ex
    refine ⟨_, pss_one (ps_ret (pe_cmpR (op_notInD (un65 hr)) pe_non (pe_fld (pv 0) rfl) (by rfl))), ?_⟩
    obtain ⟨ds, d1, d2, d3, d4⟩ := known_data (K := K) (H := H) hn vs st.wishes (by rw [h2, hC.len]) h3
    refine ⟨_, rfl, c, C, dx, _, _, rfl, hc, T.cl, T.nW, cF_wishes wl, .none, ds, .non, .lst (SqL.of h1) d1, rfl, ?_, ?_⟩
    · unfold SeqAt.shaped
      rw [PyData.canLay0, d2, PyData.depth]
      exact (Bool.true_and _).trans (decide_eq_true (by omega))
    · rw [d4]
      have : Rc57.all st = st.wishes.all (Rc57.each st.n) := by
        show (st.wishes.length == st.n && st.wishes.all (Rc57.each st.n)) = _
        rw [hC.len, beq_self_eq_true, Bool.true_and]
      rw [← this]
      exact q
end
end My
set_option Elab.async false
set_option maxRecDepth 100000
set_option maxHeartbeats 4000000
namespace My
open PySem PySem.Spec PyProof.Rows L2
open Rc57 (orderOf Wishes looks)
abbrev sABegin : Stmt := top 39
abbrev sAPeople : Stmt := top 40
abbrev sAWish : Stmt := top 41
abbrev sATrade : Stmt := top 42
abbrev sATurns : Stmt := top 43
abbrev sRefusal : Stmt := top 48
abbrev sRoom : Stmt := top 49
theorem scABegin : FnScope ["circle"] ["circle"] (defScope sABegin) := ⟨rfl, rfl, rfl, by decide +kernel, rfl, by decide +kernel, by decide +kernel⟩
theorem scAPeople : FnScope ["circle", "size"] ["circle", "size"] (defScope sAPeople) := ⟨rfl, rfl, rfl, by decide +kernel, rfl, by decide +kernel, by decide +kernel⟩
theorem scAWish : FnScope ["circle", "person", "things"] ["circle", "person", "things"] (defScope sAWish) := ⟨rfl, rfl, rfl, by decide +kernel, rfl, by decide +kernel, by decide +kernel⟩
theorem scATrade : FnScope ["circle", "own", "most", "refusal"] ["circle", "own", "most"] (defScope sATrade) := ⟨rfl, rfl, rfl, by decide +kernel, rfl, by decide +kernel, by decide +kernel⟩
theorem scATurns : FnScope ["circle", "order", "most", "refusal"] ["circle", "order", "most"] (defScope sATurns) := ⟨rfl, rfl, rfl, by decide +kernel, rfl, by decide +kernel, by decide +kernel⟩
theorem scRefusal : FnScope ["circle", "row", "most"] ["circle", "row", "most"] (defScope sRefusal) := ⟨rfl, rfl, rfl, by decide +kernel, rfl, by decide +kernel, by decide +kernel⟩
theorem scRoom : FnScope ["most", "highest"] ["most", "highest"] (defScope sRoom) := ⟨rfl, rfl, rfl, by decide +kernel, rfl, by decide +kernel, by decide +kernel⟩
/-- a whole number that the top has written -/
def Num (mg : Str → Option Value) (x : Str) (i : Int) : Prop := ∃ t, mg x = some (.int i t)
theorem pe_num {X : Cx} {x : Str} {i : Int} {pos : Pos} (hg : Gl X x) (h : Num X.mg x i) (hd : (x == ("__debug__" : Str)) = false := by decide) : PE X (.Name x pos) (tC (.int i)) := by
  obtain ⟨t, e⟩ := h
  exact pe_glob hg e ⟨t, rfl⟩ hd
/-- a row as it lies: whole numbers, none below 0 -/
structure RowAt (H : Hp) (r : Addr) (row : List Int) : Prop where
  at_ : H r = some (.lst (row.map V.int))
  few : row.length < 64
  pos : ∀ x ∈ row, 0 ≤ x
theorem RowAt.same {H H' : Hp} {r : Addr} {row : List Int} (h : RowAt H r row) (s : Same H H') : RowAt H' r row := ⟨s _ _ h.at_, h.few, h.pos⟩
abbrev nats (row : List Int) : List Nat := row.map Int.toNat
theorem iv_nats {row : List Int} (h : ∀ x ∈ row, 0 ≤ x) : iv (nats row) = row.map V.int := by
  unfold iv nats
  rw [List.map_map]
  refine List.map_congr_left fun x hx => ?_
  show V.int ((x.toNat : Nat) : Int) = V.int x
  rw [Int.toNat_of_nonneg (h x hx)]
def refusal (s : Rc57.Abs) (row : List Int) (most : Int) : Int :=
  if Rc57.each s.n (nats row) = false then -1 else if Rc57.roomOf 16 most < s.n then -2 else 0
/-- what a call does: the state behind it, what it answers; all else stands -/
def Done (C gd : Addr) (c wl : Addr) (H : Hp) (Q : VK) (s' : Rc57.Abs) (ans : List Int) : Prop :=
  ∀ (H' : Hp) (p wl' : Addr), CircAt C gd H' c wl' s' → (wl' = wl ∨ H wl' = none) → (∀ b o, H b = some o → b ≠ c → b ≠ wl → H' b = some o) → H p = none → H' p = some (.lst (ans.map V.int)) → Q (.ref p) H'
theorem Done.same {C gd c wl : Addr} {H : Hp} {Q : VK} {s : Rc57.Abs} {ans : List Int} (h : Done C gd c wl H Q s ans) {H' : Hp} {p : Addr} (hC : CircAt C gd H c wl s) (z : Same H H') (hp : H p = none) (e : H' p = some (.lst (ans.map V.int))) : Q (.ref p) H' :=
  h H' p wl (hC.same z) (.inl rfl) (fun b o e _ _ => z b o e) hp e
theorem CircAt.wsh {K : PySem.W.Frag} {C gd : Addr} {H : Hp} {c wl : Addr} {s : Rc57.Abs} (h : CircAt C gd H c wl s) (ha : Rc57.all s = true) (hn : 0 < s.n) : Wsh K H wl s.wishes ∧ RightW s.n s.wishes := by
  have hR := right_RightW ha
  refine ⟨?_, hR⟩
  obtain ⟨vs, h1, h2, h3⟩ := h.ex
  have key : ∀ (i : Nat), i < s.n → ∃ r l, vs[i]? = some (V.ref r) ∧ (s.wishes : List (List Nat))[i]? = some l ∧ H r = some (.lst (iv l)) := by
    intro i hi
    have a : vs[i]? = some (vs[i]'(by omega)) := List.getElem?_eq_getElem (by omega)
    have hl : i < s.wishes.length := by rw [h.len]; exact hi
    have b : (s.wishes : List (List Nat))[i]? = some ((s.wishes : List (List Nat))[i]'hl) := List.getElem?_eq_getElem hl
    have e := (hR.2 i hi).len
    have eo : orderOf s.wishes i = (s.wishes : List (List Nat))[i]'hl := by
      unfold orderOf
      rw [List.getD_eq_getElem?_getD, b]
      rfl
    rw [eo] at e
    generalize vs[i]'(by omega) = v at a
    generalize (s.wishes : List (List Nat))[i]'hl = l at b e
    cases h3 i v l a b with
    | non => rw [List.length_nil] at e; omega
    | lst p q _ => exact ⟨_, l, a, b, p⟩
  -- the addresses
  have all_ref : ∀ (us : List V), (∀ v ∈ us, ∃ r, v = V.ref r) → ∃ as : List Addr, us = as.map V.ref := by
    intro us
    induction us with
    | nil => intro _; exact ⟨[], rfl⟩
    | cons v us ih =>
      intro hu
      obtain ⟨r, e⟩ := hu v (List.mem_cons_self ..)
      obtain ⟨as, e2⟩ := ih fun v hv => hu v (List.mem_cons_of_mem _ hv)
      exact ⟨r :: as, by rw [e, e2]; rfl⟩
  obtain ⟨as, eas⟩ := all_ref vs (fun v hv => by
    obtain ⟨i, hi⟩ := List.mem_iff_getElem?.mp hv
    obtain ⟨r, l, a, _⟩ := key i (by have := (List.getElem?_eq_some_iff.mp hi).1; omega)
    rw [a] at hi
    exact ⟨r, (Option.some.inj hi).symm⟩)
  refine ⟨as, SqL.of (eas ▸ h1), fun i l hl => ?_⟩
  have hi : i < s.n := by
    have := (List.getElem?_eq_some_iff.mp hl).1
    rw [← h.len]
    exact this
  obtain ⟨r, l', a, b, e⟩ := key i hi
  have b' : (s.wishes : List (List Nat))[i]? = some l := hl
  rw [b] at b'
  cases b'
  refine ⟨r, ?_, SqL.of e⟩
  rw [eas, List.getElem?_map] at a
  cases q : as[i]? with
  | none => rw [q] at a; cases a
  | some x =>
    rw [q] at a
    cases a
    rfl
section
variable {P : Program} {w : World} {K : PySem.W.Frag} {mg : Str → Option Value} {base : Heap} {C : Addr}
/-- room_within(most, highest) -/
def spRoom : Sp := fun vs H Q _ => ∃ m h : Int, vs = [.int m, .int h] ∧ Q (.int (if 1 ≤ m ∧ m ≤ h then m else 0)) H
theorem ok_room {f : Addr} {fd : FuncData} {k : Nat} (F : Fun K "room_within" "room_within" sRoom f fd) : FnOk P w K mg base CX0 (k + 1) f fd ["most", "highest"] spRoom := by
  refine F.ok scRoom (fun vs H Q E h => ?_) (fun cdv A outer s H vs Q E hr h => ?_)
  · obtain ⟨_, _, rfl, _⟩ := h
    rfl
  · obtain ⟨m, hh, rfl, q⟩ := h
    refine ⟨_, pss_cons (ps_if (pt_chain op_le op_le pe_int (pv 0) (pv 1)) (pss_one (ps_ret (pv 0))) pss_nil) (pss_one (ps_ret pe_int)), ?_⟩
    refine ⟨_, rfl, _, _, rfl, rfl, _, rfl, ite2 (fun c => ?_) (fun c => ?_)⟩
    · have c1 := of_decide_eq_true c
      refine ⟨_, rfl, _, _, rfl, rfl, _, rfl, ite2 (fun c2 => ?_) (fun c2 => ?_)⟩
      · have c3 := of_decide_eq_true c2
        rw [if_pos ⟨c1, c3⟩] at q
        exact ⟨_, rfl, q⟩
      · rw [if_neg (fun z => c2 (decide_eq_true z.2))] at q
        exact q
    · rw [if_neg (fun z => c (decide_eq_true z.1))] at q
      exact ⟨_, rfl, iteF q⟩
/-- refusal_of(circle, row, most) -/
def spRefusal (C : Addr) : Sp := fun vs H Q _ => ∃ (c wl gd r : Addr) (s : Rc57.Abs) (row : List Int) (m : Int), vs = [.ref c, .ref r, .int m] ∧ CircAt C gd H c wl s ∧ RowAt H r row ∧
  ∀ H', Same H H' → Q (.int (refusal s row m)) H'
theorem ok_refusal {f fE fR fS : Addr} {fd fdE fdR fdS : FuncData} {k : Nat} (F : Fun K "refusal_of" "refusal_of" sRefusal f fd) (T : Txt K mg C)
    (GE : FnOk P w K mg base CX0 k fE fdE ["numbers", "size"] (spEach K)) (mE : mg "is_each_once" = some (.ref fE)) (pE : PySem.W.keepIn K (.ref fE) = true) (bE : Binds K fdE ["numbers", "size"] [])
    (GR : FnOk P w K mg base CX0 k fR fdR ["most", "highest"] spRoom) (mR : mg "room_within" = some (.ref fR)) (pR : PySem.W.keepIn K (.ref fR) = true) (bR : Binds K fdR ["most", "highest"] [])
    (GS : FnOk P w K mg base CX0 k fS fdS ["self"] (spSize C)) (mS : Meth K C "size" fS) (bS : Binds K fdS ["self"] [])
    (nW : Num mg "WRONG" (-1)) (nN : Num mg "NO_ROOM" (-2)) (nM : Num mg "MOST_PEOPLE" 16) :
    FnOk P w K mg base CX0 (k + 1) f fd ["circle", "row", "most"] (spRefusal C) := by
  refine F.ok scRefusal (fun vs H Q E h => ?_) (fun cdv A outer s H vs Q E hr h => ?_)
  · obtain ⟨_, _, _, _, _, _, _, rfl, _⟩ := h
    rfl
  · obtain ⟨c, wl, gd, r, st, row, m, rfl, hC, hRow, q⟩ := h
    obtain ⟨dx, hc⟩ := hC.obj
    refine ⟨_, pss_cons (ps_if (pt_not (pt_val (pe_call GE hr (by rfl) mE pE bE .nil pass0 (pa_cons (pv 1) (pa_cons (pe_meth0 (pv 0) T.cl mS GS hr bS .nil pass0) pa_nil))))) (pss_one (ps_ret (pe_num (by rfl) nW))) pss_nil)
      (pss_cons (ps_if (pt_cmpR op_gt (pe_meth0 (pv 0) T.cl mS GS hr bS .nil pass0) (pe_call GR hr (by rfl) mR pR bR .nil pass0 (pa_cons (pv 2) (pa_cons (pe_num (by rfl) nM) pa_nil))) (nomark _)) (pss_one (ps_ret (pe_num (by rfl) nN))) pss_nil)
      (pss_one (ps_ret pe_int))), ?_⟩
    refine ⟨_, rfl, _, rfl, c, dx, _, rfl, hc, cF_none wl (by decide), c, wl, gd, st, rfl, hC, ?_⟩
    refine ⟨r, row, st.n, rfl, SqL.of hRow.at_, hRow.few, hRow.pos, by have := hC.most; omega, fun H1 s1 => ⟨_, rfl, ?_⟩⟩
    have hC1 := hC.same s1
    have q1 := q H1 s1
    unfold refusal at q1
    refine ite2 (fun e => ?_) (fun e => ?_)
    · rw [if_pos (by cases z : Rc57.each st.n (nats row); rfl; rw [z] at e; cases e)] at q1
      exact q1
    · have e' : Rc57.each st.n (nats row) = true := by
        cases z : Rc57.each st.n (nats row)
        · rw [z] at e; exact absurd rfl e
        · rfl
      rw [if_neg (by rw [e']; intro z; cases z)] at q1
      refine ⟨_, rfl, c, dx, _, rfl, s1 _ _ hc, cF_none wl (by decide), c, wl, gd, st, rfl, hC1, ?_⟩
      refine ⟨_, rfl, m, 16, rfl, _, _, rfl, rfl, _, rfl, ?_⟩
      have er : ((Rc57.roomOf 16 m : Nat) : Int) = if 1 ≤ m ∧ m ≤ 16 then m else 0 := by
        unfold Rc57.roomOf
        by_cases z : 1 ≤ m ∧ m ≤ 16
        · rw [if_pos z, if_pos (show 1 ≤ m ∧ m ≤ ((16 : Nat) : Int) from z)]
          exact Int.toNat_of_nonneg (by omega)
        · rw [if_neg z, if_neg (show ¬ (1 ≤ m ∧ m ≤ ((16 : Nat) : Int)) from z)]
          rfl
      rw [← er]
      refine ite2 (fun e2 => ?_) (fun e2 => ?_)
      · have := of_decide_eq_true e2
        rw [if_pos (by omega)] at q1
        exact q1
      · rw [if_neg (fun z => e2 (decide_eq_true (by omega)))] at q1
        exact q1
end
end My
set_option Elab.async false
set_option maxRecDepth 100000
set_option maxHeartbeats 4000000
namespace My
open PySem PySem.Spec PyProof.Rows L2
open Rc57 (orderOf Wishes looks)
section
variable {P : Program} {w : World} {K : PySem.W.Frag} {mg : Str → Option Value} {base : Heap} {C : Addr}
/-- answer_begin(circle) -/
def spABegin (C : Addr) : Sp := fun vs H Q _ => ∃ (c wl gd : Addr) (s : Rc57.Abs), vs = [.ref c] ∧ CircAt C gd H c wl s ∧ Done C gd c wl H Q {} [0]
theorem ok_abegin {f fG : Addr} {fd fdG : FuncData} {k : Nat} (F : Fun K "answer_begin" "answer_begin" sABegin f fd) (T : Txt K mg C)
    (GG : FnOk P w K mg base CX0 k fG fdG ["self", "size"] (spGather C)) (mG : Meth K C "gather" fG) (bG : Binds K fdG ["self", "size"] []) (nD : Num mg "DONE" 0) :
    FnOk P w K mg base CX0 (k + 1) f fd ["circle"] (spABegin C) := by
  refine F.ok scABegin (fun vs H Q E h => ?_) (fun cdv A outer s H vs Q E hr h => ?_)
  · obtain ⟨_, _, _, _, rfl, _⟩ := h
    rfl
  · obtain ⟨c, wl, gd, st, rfl, hC, q⟩ := h
    obtain ⟨dx, hc⟩ := hC.obj
    refine ⟨_, pss_cons (ps_expr (pe_meth (pv 0) T.cl mG GG hr bG .nil pass0 (pa_cons pe_int pa_nil))) (pss_one (ps_ret (pe_lst (pa_cons (pe_num (by rfl) nD) pa_nil)))), ?_⟩
    refine ⟨_, rfl, c, dx, _, rfl, hc, cF_none wl (by decide), c, wl, gd, st, 0, rfl, hC, by decide, fun H1 wl' hC1 nw kp => ?_⟩
    refine ⟨by decide, fun p np => ?_⟩
    have np0 : H p = none := by
      cases z : H p with
      | none => rfl
      | some o =>
        by_cases e : p = c
        · obtain ⟨dx', e'⟩ := hC1.obj
          rw [← e, np] at e'
          cases e'
        · rw [kp p o z e] at np
          cases np
    have sp := same_upd (o := .lst [V.int 0]) np
    exact q _ p wl' (hC1.same sp) (.inr nw) (fun b o e h1 _ => sp _ _ (kp b o e h1)) np0 upd_same
/-- what the call of people makes of it -/
def peopleDoes (s : Rc57.Abs) (n : Int) : Rc57.Abs × List Int := if n < 1 ∨ 16 < n then (s, [-1]) else ({ n := n.toNat, wishes := List.replicate n.toNat [] }, [0])
/-- answer_people(circle, size) -/
def spAPeople (C : Addr) : Sp := fun vs H Q _ => ∃ (c wl gd : Addr) (s : Rc57.Abs) (n : Int), vs = [.ref c, .int n] ∧ CircAt C gd H c wl s ∧ (n ≤ 5 ∨ 16 < n) ∧ Done C gd c wl H Q (peopleDoes s n).1 (peopleDoes s n).2
theorem ok_apeople {f fG : Addr} {fd fdG : FuncData} {k : Nat} (F : Fun K "answer_people" "answer_people" sAPeople f fd) (T : Txt K mg C)
    (GG : FnOk P w K mg base CX0 k fG fdG ["self", "size"] (spGather C)) (mG : Meth K C "gather" fG) (bG : Binds K fdG ["self", "size"] []) (nD : Num mg "DONE" 0) (nW : Num mg "WRONG" (-1)) (nM : Num mg "MOST_PEOPLE" 16) :
    FnOk P w K mg base CX0 (k + 1) f fd ["circle", "size"] (spAPeople C) := by
  refine F.ok scAPeople (fun vs H Q E h => ?_) (fun cdv A outer s H vs Q E hr h => ?_)
  · obtain ⟨_, _, _, _, _, rfl, _⟩ := h
    rfl
  · obtain ⟨c, wl, gd, st, n, rfl, hC, hn, q⟩ := h
    obtain ⟨dx, hc⟩ := hC.obj
    refine ⟨_, pss_cons (ps_if (pt_not (pt_chain op_le op_le pe_int (pv 1) (pe_num (by rfl) nM))) (pss_one (ps_ret (pe_lst (pa_cons (pe_num (by rfl) nW) pa_nil)))) pss_nil)
      (pss_cons (ps_expr (pe_meth (pv 0) T.cl mG GG hr bG .nil pass0 (pa_cons (pv 1) pa_nil))) (pss_one (ps_ret (pe_lst (pa_cons (pe_num (by rfl) nD) pa_nil))))), ?_⟩
    have bad : (n < 1 ∨ 16 < n) → 1 ≤ sizeLine ∧ ∀ p, H p = none → Q (.ref p) (upd H p (.lst [V.int (-1)])) := fun z => by
      unfold peopleDoes at q
      rw [if_pos z] at q
      exact ⟨by decide, fun p np => q.same hC (same_upd np) np upd_same⟩
    refine ⟨_, rfl, _, _, rfl, rfl, _, rfl, ite2 (fun c1 => ?_) (fun c1 => ?_)⟩
    · have d1 := of_decide_eq_true c1
      refine ⟨_, _, rfl, rfl, _, rfl, ite2 (fun c2 => ?_) (fun c2 => ?_)⟩
      · have d2 : ¬ n ≤ 16 := fun z => by
          have : decide (n ≤ 16) = true := decide_eq_true z
          rw [this] at c2
          cases c2
        exact bad (.inr (by omega))
      · have d2 : n ≤ 16 := by
          have : ¬ (!decide (n ≤ 16)) = true := c2
          cases z : decide (n ≤ 16)
          · rw [z] at this; exact absurd rfl this
          · exact of_decide_eq_true z
        unfold peopleDoes at q
        rw [if_neg (by omega)] at q
        refine ⟨_, rfl, c, dx, _, rfl, hc, cF_none wl (by decide), _, rfl, c, wl, gd, st, n.toNat, by rw [Int.toNat_of_nonneg (by omega)]; rfl, hC, by omega, fun H1 wl' hC1 nw kp => ?_⟩
        refine ⟨by decide, fun p np => ?_⟩
        have np0 : H p = none := by
          cases z : H p with
          | none => rfl
          | some o =>
            by_cases e : p = c
            · obtain ⟨dx', e'⟩ := hC1.obj
              rw [← e, np] at e'
              cases e'
            · rw [kp p o z e] at np
              cases np
        have sp := same_upd (o := .lst [V.int 0]) np
        exact q _ p wl' (hC1.same sp) (.inr nw) (fun b o e h1 _ => sp _ _ (kp b o e h1)) np0 upd_same
    · have d1 : ¬ 1 ≤ n := fun z => c1 (decide_eq_true z)
      exact ⟨_, rfl, iteT (bad (.inl (by omega)))⟩
/-- what the call of wish makes of it -/
def wishDoes (s : Rc57.Abs) (i : Int) (row : List Int) : Rc57.Abs × List Int :=
  if i < 0 ∨ (s.n : Int) ≤ i ∨ Rc57.each s.n (nats row) = false then (s, [-1]) else ({ s with wishes := s.wishes.set i.toNat (nats row) }, [0])
/-- answer_wish(circle, person, things) -/
def spAWish (C : Addr) : Sp := fun vs H Q _ => ∃ (c wl gd r : Addr) (s : Rc57.Abs) (i : Int) (row : List Int), vs = [.ref c, .int i, .ref r] ∧ CircAt C gd H c wl s ∧ RowAt H r row ∧ r ≠ gd ∧ Done C gd c wl H Q (wishDoes s i row).1 (wishDoes s i row).2
theorem ok_awish {f fE fS : Addr} {fd fdE fdS : FuncData} {k : Nat} (F : Fun K "answer_wish" "answer_wish" sAWish f fd) (T : Txt K mg C)
    (GE : FnOk P w K mg base CX0 k fE fdE ["numbers", "size"] (spEach K)) (mE : mg "is_each_once" = some (.ref fE)) (pE : PySem.W.keepIn K (.ref fE) = true) (bE : Binds K fdE ["numbers", "size"] [])
    (GS : FnOk P w K mg base CX0 k fS fdS ["self"] (spSize C)) (mS : Meth K C "size" fS) (bS : Binds K fdS ["self"] [])
    (nD : Num mg "DONE" 0) (nW : Num mg "WRONG" (-1)) :
    FnOk P w K mg base CX0 (k + 1) f fd ["circle", "person", "things"] (spAWish C) := by
  refine F.ok scAWish (fun vs H Q E h => ?_) (fun cdv A outer s H vs Q E hr h => ?_)
  · obtain ⟨_, _, _, _, _, _, _, rfl, _⟩ := h
    rfl
  · obtain ⟨c, wl, gd, r, st, i, row, rfl, hC, hRow, hrg, q⟩ := h
    obtain ⟨dx, hc⟩ := hC.obj
    refine ⟨_, pss_cons (ps_if (pt_not (pt_chain op_le op_lt pe_int (pv 1) (pe_meth0 (pv 0) T.cl mS GS hr bS .nil pass0))) (pss_one (ps_ret (pe_lst (pa_cons (pe_num (by rfl) nW) pa_nil)))) pss_nil)
      (pss_cons (ps_if (pt_not (pt_val (pe_call GE hr (by rfl) mE pE bE .nil pass0 (pa_cons (pv 2) (pa_cons (pe_meth0 (pv 0) T.cl mS GS hr bS .nil pass0) pa_nil))))) (pss_one (ps_ret (pe_lst (pa_cons (pe_num (by rfl) nW) pa_nil)))) pss_nil)
      (pss_cons (ps_asg (pv 2) (pg_sub (pe_fld (pv 0) rfl) (pv 1) set_list))
      (pss_one (ps_ret (pe_lst (pa_cons (pe_num (by rfl) nD) pa_nil)))))), ?_⟩
    have bad : ∀ H', Same H H' → (i < 0 ∨ (st.n : Int) ≤ i ∨ Rc57.each st.n (nats row) = false) → 1 ≤ sizeLine ∧ ∀ p, H' p = none → Q (.ref p) (upd H' p (.lst [V.int (-1)])) := fun H' s1 z => by
      unfold wishDoes at q
      rw [if_pos z] at q
      exact ⟨by decide, fun p np => q.same hC (s1.trans (same_upd np)) (s1.free np) upd_same⟩
    refine ⟨_, rfl, _, _, rfl, rfl, _, rfl, ite2 (fun c1 => ?_) (fun c1 => ?_)⟩
    · have d1 := of_decide_eq_true c1
      refine ⟨_, rfl, c, dx, _, rfl, hc, cF_none wl (by decide), c, wl, gd, st, rfl, hC, ?_⟩
      refine ⟨_, _, rfl, rfl, _, rfl, ite2 (fun c2 => ?_) (fun c2 => ?_)⟩
      · have d2 : ¬ i < (st.n : Int) := fun z => by
          have : decide (i < (st.n : Int)) = true := decide_eq_true z
          rw [this] at c2
          cases c2
        exact bad H (Same.refl H) (.inr (.inl (by omega)))
      · have d2 : i < (st.n : Int) := by
          have : ¬ (!decide (i < (st.n : Int))) = true := c2
          cases z : decide (i < (st.n : Int))
          · rw [z] at this; exact absurd rfl this
          · exact of_decide_eq_true z
        have d : 0 ≤ i ∧ i < (st.n : Int) := ⟨d1, d2⟩
        -- a person that's there
        refine ⟨_, rfl, _, rfl, c, dx, _, rfl, hc, cF_none wl (by decide), c, wl, gd, st, rfl, hC, ?_⟩
        refine ⟨r, row, st.n, rfl, SqL.of hRow.at_, hRow.few, hRow.pos, by have := hC.most; omega, fun H1 s1 => ⟨_, rfl, ?_⟩⟩
        refine ite2 (fun e => ?_) (fun e => ?_)
        · exact bad H1 s1 (.inr (.inr (by cases z : Rc57.each st.n (nats row); rfl; rw [z] at e; cases e)))
        · have e' : Rc57.each st.n (nats row) = true := by
            cases z : Rc57.each st.n (nats row)
            · rw [z] at e; exact absurd rfl e
            · rfl
          have hC1 := hC.same s1
          obtain ⟨vs, h1, h2, h3⟩ := hC1.ex
          have E := each_Each e'
          have hin : i.toNat < st.n := by omega
          have hr1 := s1 _ _ hRow.at_
          -- the row is another list than that of the wishes
          have rw' : r ≠ wl := fun z => by
            rw [z, h1] at hr1
            have e1 : vs = row.map V.int := by injection (Option.some.inj hr1)
            have hl : 0 < row.length := by
              have := E.len
              rw [List.length_map] at this
              omega
            have a0 : vs[0]? = some (V.int row[0]) := by rw [e1]; exact ints_at (List.getElem?_eq_getElem hl)
            have hw : 0 < st.wishes.length := by rw [hC.len]; omega
            cases h3 0 _ _ a0 (List.getElem?_eq_getElem hw)
          unfold wishDoes at q
          rw [if_neg (by rw [e']; intro z; rcases z with z | z | z; omega; omega; cases z)] at q
          refine ⟨_, rfl, _, rfl, c, C, dx, _, _, rfl, s1 _ _ hc, T.cl, T.nW, cF_wishes wl, _, rfl, wl, vs, i, i.toNat, rfl, rfl, h1, ?_, ?_⟩
          · have := ixN_nat (n := vs.length) (k := i.toNat) (by omega)
            rw [Int.toNat_of_nonneg d.1] at this
            exact this
          · refine ⟨by decide, fun p np => ?_⟩
            have cw : c ≠ wl := hC.ne
            have pw : wl ≠ p := ne_of_none upd_same np
            have np1 : H1 p = none := by
              rw [upd_ne pw.symm] at np
              exact np
            have sp := same_upd (o := .lst [V.int 0]) np
            refine q _ p wl ?_ (.inl rfl) (fun b o e1 e2 e3 => sp _ _ (by rw [upd_ne e3]; exact s1 _ _ e1)) (s1.free np1) upd_same
            refine CircAt.same ?_ sp
            refine ⟨⟨dx, by rw [upd_ne cw]; exact s1 _ _ hc⟩, ⟨vs.set i.toNat (.ref r), upd_same, by rw [List.length_set]; exact h2, fun j v l a b => ?_⟩, by rw [List.length_set]; exact hC.len, hC.most⟩
            have old : ∀ v l, WishIs gd H1 st.n v l → WishIs gd (upd H1 wl (.lst (vs.set i.toNat (.ref r)))) st.n v l := fun v l z => by
              cases z with
              | non => exact .non
              | @lst r' l p1 p2 p3 =>
                refine .lst ?_ p2 p3
                have : r' ≠ wl := fun z => by
                  rw [z, h1] at p1
                  have e1 : vs = iv l := by injection (Option.some.inj p1)
                  have hl : 0 < l.length := by rw [p2.len]; omega
                  have a0 : vs[0]? = some (V.int ((l[0] : Nat) : Int)) := by rw [e1]; exact iv_at (List.getElem?_eq_getElem hl)
                  have hw : 0 < st.wishes.length := by rw [hC.len]; omega
                  cases h3 0 _ _ a0 (List.getElem?_eq_getElem hw)
                rw [upd_ne this]
                exact p1
            by_cases cj : j = i.toNat
            · subst cj
              rw [List.getElem?_set_self (by omega)] at a
              rw [List.getElem?_set_self (by rw [hC.len]; omega)] at b
              cases a
              cases b
              refine .lst ?_ E hrg
              rw [upd_ne rw', iv_nats hRow.pos]
              exact hr1
            · rw [List.getElem?_set_ne (fun z => cj z.symm)] at a b
              exact old v l (h3 j v l a b)
    · have d1 : ¬ 0 ≤ i := fun z => c1 (decide_eq_true z)
      exact ⟨_, rfl, iteT (bad H (Same.refl H) (.inl (by omega)))⟩
/-- what the call of trade answers -/
def tradeDoes (s : Rc57.Abs) (row : List Int) (m : Int) : List Int := if refusal s row m < 0 then [refusal s row m] else (s.n : Int) :: (Rc57.traded s.n s.wishes (nats row)).map fun x : Nat => (x : Int)
def turnsDoes (s : Rc57.Abs) (row : List Int) (m : Int) : List Int := if refusal s row m < 0 then [refusal s row m] else (s.n : Int) :: (Rc57.turns s.n s.wishes (nats row)).map fun x : Nat => (x : Int)
/-- answer_trade(circle, own, most) -/
def spATrade (C : Addr) : Sp := fun vs H Q _ => ∃ (c wl gd r : Addr) (s : Rc57.Abs) (row : List Int) (m : Int), vs = [.ref c, .ref r, .int m] ∧ CircAt C gd H c wl s ∧ RowAt H r row ∧ 0 < s.n ∧ Rc57.all s = true ∧ Done C gd c wl H Q s (tradeDoes s row m)
def spATurns (C : Addr) : Sp := fun vs H Q _ => ∃ (c wl gd r : Addr) (s : Rc57.Abs) (row : List Int) (m : Int), vs = [.ref c, .ref r, .int m] ∧ CircAt C gd H c wl s ∧ RowAt H r row ∧ 0 < s.n ∧ Rc57.all s = true ∧ Done C gd c wl H Q s (turnsDoes s row m)
theorem refusal_each {s : Rc57.Abs} {row : List Int} {m : Int} (h : ¬ refusal s row m < 0) : Each s.n (nats row) := by
  refine each_Each ?_
  cases z : Rc57.each s.n (nats row)
  · refine absurd ?_ h
    unfold refusal
    rw [if_pos z]
    decide
  · rfl
theorem cons_iv (n : Nat) (l : List Nat) : [V.int (n : Int)] ++ iv l = ((n : Int) :: l.map fun x : Nat => (x : Int)).map V.int := by
  rw [iv_ints]
  rfl
theorem ok_atrade {f fR fS fT : Addr} {fd fdR fdS fdT : FuncData} {k : Nat} (F : Fun K "answer_trade" "answer_trade" sATrade f fd) (T : Txt K mg C)
    (GR : FnOk P w K mg base CX0 k fR fdR ["circle", "row", "most"] (spRefusal C)) (mR : mg "refusal_of" = some (.ref fR)) (pR : PySem.W.keepIn K (.ref fR) = true) (bR : Binds K fdR ["circle", "row", "most"] [])
    (GS : FnOk P w K mg base CX0 k fS fdS ["self"] (spSize C)) (mS : Meth K C "size" fS) (bS : Binds K fdS ["self"] [])
    (GT : FnOk P w K mg base CX0 k fT fdT ["wishes", "own"] (spTrade K)) (mT : mg "exchanged_round" = some (.ref fT)) (pT : PySem.W.keepIn K (.ref fT) = true) (bT : Binds K fdT ["wishes", "own"] []) :
    FnOk P w K mg base CX0 (k + 1) f fd ["circle", "own", "most"] (spATrade C) := by
  refine F.ok scATrade (fun vs H Q E h => ?_) (fun cdv A outer s H vs Q E hr h => ?_)
  · obtain ⟨_, _, _, _, _, _, _, rfl, _⟩ := h
    rfl
  · obtain ⟨c, wl, gd, r, st, row, m, rfl, hC, hRow, hn, ha, q⟩ := h
    obtain ⟨dx, hc⟩ := hC.obj
    refine ⟨_, pss_cons (ps_set (i := 3) scATrade.nd rfl (Or.inl rfl) (pe_call GR hr (by rfl) mR pR bR .nil pass0 (pa_cons (pv 0) (pa_cons (pv 1) (pa_cons (pv 2) pa_nil)))))
      (pss_cons (ps_if (pt_cmpR op_lt (pv 3) pe_int (nomark _)) (pss_one (ps_ret (pe_lst (pa_cons (pv 3) pa_nil)))) pss_nil)
      (pss_one (ps_ret (pe_op op_cat (pe_lst (pa_cons (pe_meth0 (pv 0) T.cl mS GS hr bS .nil pass0) pa_nil)) (pe_call GT hr (by rfl) mT pT bT .nil pass0 (pa_cons (pe_fld (pv 0) rfl) (pa_cons (pv 1) pa_nil))))))), ?_⟩
    refine ⟨_, rfl, _, rfl, _, rfl, c, wl, gd, r, st, row, m, rfl, hC, hRow, fun H1 s1 => ?_⟩
    refine ⟨_, rfl, _, _, rfl, rfl, _, rfl, ite2 (fun e => ?_) (fun e => ?_)⟩
    · have e' := of_decide_eq_true e
      unfold tradeDoes at q
      rw [if_pos e'] at q
      exact ⟨_, rfl, (show 1 ≤ sizeLine by decide), fun p np => q.same hC (s1.trans (same_upd np)) (s1.free np) upd_same⟩
    · have e' : ¬ refusal st row m < 0 := fun z => e (decide_eq_true z)
      have E := refusal_each e'
      unfold tradeDoes at q
      rw [if_neg e'] at q
      refine ⟨_, rfl, c, dx, _, rfl, s1 _ _ hc, cF_none wl (by decide), c, wl, gd, st, rfl, hC.same s1, (show 1 ≤ sizeLine by decide), fun p1 n1 => ?_⟩
      have s2 := s1.trans (same_upd (o := .lst [V.int (st.n : Int)]) n1)
      obtain ⟨hW, hRW⟩ := (hC.same s2).wsh (K := K) ha hn
      refine ⟨_, rfl, c, C, dx, _, _, rfl, s2 _ _ hc, T.cl, T.nW, cF_wishes wl, _, rfl, wl, r, st.wishes, nats row, st.n, rfl, hW, ?_, hRW, E, by have := hC.most; omega, fun H3 p2 s3 n2 e2 => ?_⟩
      · rw [iv_nats hRow.pos]
        exact SqL.of (s2 _ _ hRow.at_)
      · have s4 := s2.trans s3
        have len : (Rc57.traded st.n st.wishes (nats row)).length = st.n := by
          unfold Rc57.traded Rc57.giftOf
          rw [List.length_map, List.length_range]
        refine ⟨p1, p2, _, _, rfl, rfl, s3 _ _ upd_same, e2, ?_, fun p np => q.same hC (s4.trans (same_upd np)) (s4.free np) ?_⟩
        · rw [iv_len, len]
          have := hC.most
          exact Nat.le_of_lt (small1000 (by show 1 + st.n ≤ 1000; omega))
        · rw [upd_same, cons_iv]
theorem ok_aturns {f fR fS fT : Addr} {fd fdR fdS fdT : FuncData} {k : Nat} (F : Fun K "answer_turns" "answer_turns" sATurns f fd) (T : Txt K mg C)
    (GR : FnOk P w K mg base CX0 k fR fdR ["circle", "row", "most"] (spRefusal C)) (mR : mg "refusal_of" = some (.ref fR)) (pR : PySem.W.keepIn K (.ref fR) = true) (bR : Binds K fdR ["circle", "row", "most"] [])
    (GS : FnOk P w K mg base CX0 k fS fdS ["self"] (spSize C)) (mS : Meth K C "size" fS) (bS : Binds K fdS ["self"] [])
    (GT : FnOk P w K mg base CX0 k fT fdT ["wishes", "order"] (spTurns K)) (mT : mg "taken_in_turn" = some (.ref fT)) (pT : PySem.W.keepIn K (.ref fT) = true) (bT : Binds K fdT ["wishes", "order"] []) :
    FnOk P w K mg base CX0 (k + 1) f fd ["circle", "order", "most"] (spATurns C) := by
  refine F.ok scATurns (fun vs H Q E h => ?_) (fun cdv A outer s H vs Q E hr h => ?_)
  · obtain ⟨_, _, _, _, _, _, _, rfl, _⟩ := h
    rfl
  · obtain ⟨c, wl, gd, r, st, row, m, rfl, hC, hRow, hn, ha, q⟩ := h
    obtain ⟨dx, hc⟩ := hC.obj
    refine ⟨_, pss_cons (ps_set (i := 3) scATurns.nd rfl (Or.inl rfl) (pe_call GR hr (by rfl) mR pR bR .nil pass0 (pa_cons (pv 0) (pa_cons (pv 1) (pa_cons (pv 2) pa_nil)))))
      (pss_cons (ps_if (pt_cmpR op_lt (pv 3) pe_int (nomark _)) (pss_one (ps_ret (pe_lst (pa_cons (pv 3) pa_nil)))) pss_nil)
      (pss_one (ps_ret (pe_op op_cat (pe_lst (pa_cons (pe_meth0 (pv 0) T.cl mS GS hr bS .nil pass0) pa_nil)) (pe_call GT hr (by rfl) mT pT bT .nil pass0 (pa_cons (pe_fld (pv 0) rfl) (pa_cons (pv 1) pa_nil))))))), ?_⟩
    refine ⟨_, rfl, _, rfl, _, rfl, c, wl, gd, r, st, row, m, rfl, hC, hRow, fun H1 s1 => ?_⟩
    refine ⟨_, rfl, _, _, rfl, rfl, _, rfl, ite2 (fun e => ?_) (fun e => ?_)⟩
    · have e' := of_decide_eq_true e
      unfold turnsDoes at q
      rw [if_pos e'] at q
      exact ⟨_, rfl, (show 1 ≤ sizeLine by decide), fun p np => q.same hC (s1.trans (same_upd np)) (s1.free np) upd_same⟩
    · have e' : ¬ refusal st row m < 0 := fun z => e (decide_eq_true z)
      have E := refusal_each e'
      unfold turnsDoes at q
      rw [if_neg e'] at q
      refine ⟨_, rfl, c, dx, _, rfl, s1 _ _ hc, cF_none wl (by decide), c, wl, gd, st, rfl, hC.same s1, (show 1 ≤ sizeLine by decide), fun p1 n1 => ?_⟩
      have s2 := s1.trans (same_upd (o := .lst [V.int (st.n : Int)]) n1)
      obtain ⟨hW, hRW⟩ := (hC.same s2).wsh (K := K) ha hn
      refine ⟨_, rfl, c, C, dx, _, _, rfl, s2 _ _ hc, T.cl, T.nW, cF_wishes wl, _, rfl, wl, r, st.wishes, nats row, st.n, rfl, hW, ?_, hRW, E, by have := hC.most; omega, fun H3 p2 s3 n2 e2 => ?_⟩
      · rw [iv_nats hRow.pos]
        exact SqL.of (s2 _ _ hRow.at_)
      · have s4 := s2.trans s3
        have len : (Rc57.turns st.n st.wishes (nats row)).length = st.n := by
          unfold Rc57.turns Rc57.giftOf
          rw [List.length_map, List.length_range]
        refine ⟨p1, p2, _, _, rfl, rfl, s3 _ _ upd_same, e2, ?_, fun p np => q.same hC (s4.trans (same_upd np)) (s4.free np) ?_⟩
        · rw [iv_len, len]
          have := hC.most
          exact Nat.le_of_lt (small1000 (by show 1 + st.n ≤ 1000; omega))
        · rw [upd_same, cons_iv]
end
end My
set_option Elab.async false
set_option maxRecDepth 100000
set_option maxHeartbeats 4000000
namespace My
open PySem PySem.Spec PyProof.Rows L2
open Rc57 (orderOf Wishes looks)
abbrev sFirst : Stmt := top 4
abbrev sGood : Stmt := top 5
abbrev nFirst : List Str := ["wishes", "given", "left", "order", "ready", "person", "thing"]
theorem scFirst : FnScope nFirst ["wishes", "given"] (defScope sFirst) := ⟨rfl, rfl, rfl, by decide +kernel, rfl, by decide +kernel, by decide +kernel⟩
theorem scGood : FnScope ["wishes", "given"] ["wishes", "given"] (defScope sGood) := ⟨rfl, rfl, rfl, by decide +kernel, rfl, by decide +kernel, by decide +kernel⟩
/-- the first order by which a gift comes in turn, or nothing -/
def firstOf (n : Nat) (w : Wishes) (g : List Nat) : List Nat := (greedy w g n (List.range n) (List.range n)).getD []
theorem filt_more {n i : Nat} (p : Nat → Bool) (hi : i < n) : ((List.range n).take (i + 1)).filter p = ((List.range n).take i).filter p ++ (if p i = true then [i] else []) := by
  rw [take_more (List.getElem?_range hi), List.filter_append, List.filter_cons]
  rfl
theorem filt_few {n i : Nat} (p : Nat → Bool) : (((List.range n).take i).filter p).length ≤ n := by
  refine Nat.le_trans (List.length_filter_le ..) (Nat.le_trans (List.length_take_le' ..) ?_)
  rw [List.length_range]
  exact Nat.le_refl _
theorem eqI (x y : Nat) : decide (V.int (x : Int) = V.int (y : Int)) = (x == y) := by
  rw [Bool.eq_iff_iff, decide_eq_true_iff, beq_iff_eq]
  constructor
  · intro h
    injection h with h
    omega
  · intro h
    rw [h]
theorem iv_nil_eqv (l : List Nat) : PyData.eqv (.list ((l.map fun n : Nat => (n : Int)).map PyData.int)) (.list (([] : List Int).map PyData.int)) = l.isEmpty := by
  rw [PyData.eqv, eqv_ints]
  cases l <;> rfl
section
variable {P : Program} {w : World} {K : PySem.W.Frag} {mg : Str → Option Value} {base : Heap}
/-- first_order(wishes, given) -/
def spFirst (K : PySem.W.Frag) : Sp := fun vs H Q _ => ∃ (a b : Addr) (ws : Wishes) (g : List Nat) (n : Nat), vs = [.ref a, .ref b] ∧ Wsh K H a ws ∧ SqL K H b (iv g) ∧ RightW n ws ∧ Each n g ∧ n ≤ 1000 ∧
  ∀ H' p, Same H H' → H p = none → H' p = some (.lst (iv (firstOf n ws g))) → Q (.ref p) H'
theorem ok_first {f fD : Addr} {fd fdD : FuncData} {k : Nat} (F : Fun K "first_order" "first_order" sFirst f fd) (mLen : mg "len" = none) (mEn : mg "enumerate" = none)
    (GD : FnOk P w K mg base CX0 k fD fdD ["things", "left"] (spDear K)) (mD : mg "dearest" = some (.ref fD)) (kD : PySem.W.keepIn K (.ref fD) = true) (bD : Binds K fdD ["things", "left"] []) :
    FnOk P w K mg base CX0 (k + 1) f fd ["wishes", "given"] (spFirst K) := by
  refine F.ok scFirst (fun vs H Q E h => ?_) (fun cdv A outer s H vs Q E hr h => ?_)
  · obtain ⟨a, b, _, _, _, rfl, _⟩ := h
    rfl
  · obtain ⟨a, b, ws, g, n, rfl, hA, hB, hW, hG, hn, q⟩ := h
    refine ⟨_, pss_cons (ps_set (i := 2) scFirst.nd rfl (Or.inr rfl) (pe_op op_rep (pe_lst (pa_cons pe_bl pa_nil)) (pe_callB call_len_seq (by rfl) mLen PySem.boot_len (pa_cons (pv 1) pa_nil))))
      (pss_cons (ps_set (i := 3) scFirst.nd rfl (Or.inl rfl) (pe_lst pa_nil))
      (pss_cons (ps_while PassesOwn.never (pt_cmpR op_lt (pe_callB call_len_seq (by rfl) mLen PySem.boot_len (pa_cons (pv 3) pa_nil)) (pe_callB call_len_seq (by rfl) mLen PySem.boot_len (pa_cons (pv 1) pa_nil)) (nomark _))
        (pss_cons (ps_setLc (i := 4) (own := [("person", 5), ("thing", 6)]) (g := gTup K 2 (gCons (gName 5) (gCons (gName 6) gNil))) rfl scFirst.nd rfl rfl (sw_true rfl rfl (by decide) (by decide)) (pi_enum (by rfl) mEn (pa_cons (pv 1) pa_nil)) (blkOk_by (N := nFirst) (sc := defScope sFirst) (by decide +kernel))
            (fun _ _ _ _ _ => pg_tup rfl (pgs_cons (pg_name (i := 5) scFirst.nd rfl (.inl rfl)) (pgs_cons (pg_name (i := 6) scFirst.nd rfl (.inl rfl)) pgs_nil)))
            (fun _ _ _ _ _ => pts_one (pt_cmpR op_eq (pe_call GD hr (by rfl) mD kD bD .nil pass0 (pa_cons (pe_ix (r := rIxL K) ix_list (pv 0) (pv 5) (fun _ _ => rfl)) (pa_cons (pv 2) pa_nil))) (pv 6) (nomark _))) (fun _ _ _ _ _ => pv 5))
        (pss_cons (ps_if (pt_cmpR (op_eqD hr.units) (pv 4) (pe_lst pa_nil) (nomark _)) (pss_one (ps_ret (pe_lst pa_nil))) pss_nil)
        (pss_cons (ps_expr (pe_bm PySem.F.plainAttrs_list PySem.F.slot_list_append PySem.F.type_list_append mt_append (pv 3) (pa_cons (pe_ix ix_list (pv 4) pe_int (fun _ _ => rfl)) pa_nil)))
        (pss_one (ps_asg pe_bl (pg_sub (pv 2) (pe_ix ix_list (pv 1) (pe_ix ix_list (pv 4) pe_int (fun _ _ => rfl)) (fun _ _ => rfl)) set_list)))))))
      (pss_one (ps_ret (pv 3))))), ?_⟩
    refine ⟨by decide, fun p1 n1 => ?_⟩
    have s1 := same_upd (o := .lst [V.bl true]) n1
    refine ⟨_, rfl, b, _, rfl, .inl (s1.seq hB), p1, _, _, rfl, rfl, upd_same, by rw [iv_len, hG.len]; omega, by rw [iv_len, hG.len]; omega, ?_, fun l nl => ?_⟩
    · rw [iv_len, hG.len]
      show 1 * ((n : Int)).toNat ≤ sizeLine
      exact Nat.le_of_lt (small1000 (by omega))
    rw [iv_len, hG.len, Int.toNat_natCast, rep_bl]
    have s2 := s1.trans (same_upd (o := .lst (bv (List.replicate n true))) nl)
    have nl0 : H l = none := s1.free nl
    -- order = []
    refine ⟨Nat.zero_le _, fun od no => ?_⟩
    have s3 := s2.trans (same_upd (o := .lst []) no)
    have no0 : H od = none := s2.free no
    have lo : l ≠ od := ne_of_none upd_same no
    refine ⟨fun m σ H' => ∃ (x4 : Option V) (left : List Bool) (o : List Nat), m = n - o.length ∧ σ = [some (.ref a), some (.ref b), some (.ref l), some (.ref od), x4, none, none] ∧ Same H H' ∧
        H' l = some (.lst (bv left)) ∧ H' od = some (.lst (iv o)) ∧ FirstInv n ws g left o ∧ o.length ≤ n,
      ⟨_, none, _, [], rfl, rfl, s3, by rw [upd_ne lo]; exact upd_same, upd_same, FirstInv.start hG, Nat.zero_le _⟩, ?_⟩
    rintro m σ H' ⟨x4, left, o, rfl, rfl, s5, hl, ho, hI, hol⟩
    refine ⟨_, rfl, od, _, rfl, .inl (SqL.of ho), _, rfl, b, _, rfl, .inl (s5.seq hB), _, _, rfl, rfl, _, rfl, ?_⟩
    refine ite2 (fun c1 => ?_) (fun c1 => ?_)
    · have c2 : o.length < n := by
        have := of_decide_eq_true c1
        rw [iv_len, iv_len, hG.len] at this
        omega
      obtain ⟨d, d1, d2, d3⟩ := hI.turn hW hG c2
      refine ⟨fun σ H' => ∃ (x4 : Option V) (left' : List Bool) (o' : List Nat), o'.length = o.length + 1 ∧ σ = [some (.ref a), some (.ref b), some (.ref l), some (.ref od), x4, none, none] ∧ Same H H' ∧
        H' l = some (.lst (bv left')) ∧ H' od = some (.lst (iv o')) ∧ FirstInv n ws g left' o', fun σ' H'' ⟨y4, left', o', e1, e2, e3, e4, e5, e6⟩ => ⟨n - o'.length, by omega, y4, left', o', rfl, e2, e3, e4, e5, e6, by omega⟩, ?_⟩
      -- who is ready
      refine ⟨_, rfl, b, iv g, rfl, s5.seq hB, fun D hD => ?_⟩
      have sD := same_upd (o := .lst []) hD
      refine lc_it (walk_enum (K := K) (a := b) (xs := iv g)) (fun i H2 => Same H' H2 ∧ H2 D = some (.lst (iv (((List.range n).take i).filter fun p => d p == g.getD p 0)))) ⟨sD, upd_same⟩ (fun i H2 _ h => (s5.trans h.1).seq hB) ?_ ?_
      · rintro i y H1 H2 hi ⟨sm, hDl⟩ ⟨T, x, z, rfl, nT, rfl, e1, e2⟩
        obtain ⟨t, ht, rfl⟩ := iv_get e2
        cases e1
        have hin : i < n := by
          rw [iv_len, hG.len] at hi
          exact hi
        have sT := same_upd (o := .tup [V.int (i : Nat), V.int (t : Int)]) nT
        refine ⟨T, _, rfl, .inl (.inl upd_same), rfl, _, _, rfl, _, _, rfl, rfl, rfl, ?_⟩
        obtain ⟨vs, c, r1, r2, r3⟩ := (hA.same ((s5.trans sm).trans sT)).read hW hin
        have EW := hW.2 i hin
        have e9 : g.getD i 0 = t := by rw [List.getD_eq_getElem?_getD, ht]; rfl
        refine ⟨_, rfl, _, rfl, a, vs, (i : Int), _, rfl, rfl, r1, at_of rfl r2, _, rfl, c, l, _, left, d i, rfl, r3, (sm.trans sT).seq (SqL.of hl), (fun y hy => by rw [hI.llen]; exact EW.lt y hy), (by rw [EW.len]; exact hn), d1 i hin, fun H3 s6 => ?_⟩
        refine ⟨_, rfl, rfl, _, rfl, ?_⟩
        rw [eqI]
        have hD3 := s6 _ _ (sT _ _ hDl)
        have sN := (sm.trans sT).trans s6
        have em := filt_more (fun p => d p == g.getD p 0) hin
        rw [← e9]
        refine ite2 (fun c => ?_) (fun c => ?_)
        · rw [if_pos c] at em
          refine ⟨_, rfl, _, hD3, ?_, same_put hD sN, ?_⟩
          · rw [iv_len]
            exact small1000 (Nat.le_trans (filt_few _) hn)
          · rw [upd_same, em]
            unfold iv
            rw [List.map_append]
            rfl
        · rw [if_neg c, List.append_nil] at em
          exact ⟨sN, by rw [em]; exact hD3⟩
      · rintro H2 ⟨sm, hDl⟩
        rw [iv_len, hG.len, List.take_of_length_le (by rw [List.length_range]; exact Nat.le_refl _)] at hDl
        generalize hrd : ((List.range n).filter fun p => d p == g.getD p 0) = rd at hDl d2 d3
        -- nobody is ready
        refine ⟨_, rfl, Nat.zero_le _, fun q0 nq => ?_⟩
        have sq := same_upd (o := .lst []) nq
        refine ⟨_, _, .lst (SqL.of (by rw [sq _ _ hDl, iv_ints])) (dpAll_ints K _ _), .lst (SqL.of (xs := ([] : List Int).map V.int) upd_same) (dpAll_ints K _ []), shaped_ints _, shaped_ints _, _, rfl, ?_⟩
        rw [iv_nil_eqv]
        refine ite2 (fun c => ?_) (fun c => ?_)
        · have e0 : rd = [] := List.isEmpty_iff.mp c
          refine ⟨Nat.zero_le _, fun r nr => ?_⟩
          refine q _ r (((s5.trans sm).trans sq).trans (same_upd nr)) (((s5.trans sm).trans sq).free nr) ?_
          unfold firstOf
          rw [upd_same, d2 e0]
          rfl
        · cases rd with
          | nil => exact absurd rfl c
          | cons i0 rt =>
            obtain ⟨hin, hI'⟩ := d3 i0 rfl
            have s7 := s5.trans (sm.trans sq)
            have oD : od ≠ D := ne_of_none ho hD
            have lD : l ≠ D := ne_of_none hl hD
            have ho7 : _ = _ := (sm.trans sq) _ _ ho
            have hl7 : _ = _ := (sm.trans sq) _ _ hl
            refine ⟨.ref od, rfl, .inl ⟨rfl, _, SqL.of ho7⟩, _, rfl, D, _, 0, _, rfl, rfl, SqL.of (sq _ _ hDl), at_of (j := 0) rfl (iv_at (l := i0 :: rt) (i := 0) (x := i0) rfl), od, _, _, rfl, rfl, ho7, small1000 (by rw [iv_len]; omega), ?_⟩
            have hDl2 : _ = _ := sq _ _ hDl
            have oq : od ≠ q0 := ne_of_none ((sm) _ _ ho) nq
            have sP := same_put (H' := upd H2 q0 (.lst [])) (o := .lst (iv o ++ [V.int (i0 : Int)])) no0 s7
            -- left[given[ready[0]]] = False
            have hg0 : g[i0]? = some (g.getD i0 0) := by
              rw [List.getD_eq_getElem?_getD, List.getElem?_eq_getElem (by rw [hG.len]; exact hin)]
              rfl
            have Dod : D ≠ od := oD.symm
            have Dq : (upd (upd H2 q0 (.lst [])) od (.lst (iv o ++ [V.int (i0 : Int)]))) D = some (.lst (iv (i0 :: rt))) := by rw [upd_ne Dod]; exact hDl2
            have lod : l ≠ od := lo
            have glt : g.getD i0 0 < n := hG.lt _ (getD_mem (by rw [hG.len]; exact hin))
            refine ⟨_, rfl, _, rfl, _, rfl, D, _, 0, _, rfl, rfl, SqL.of Dq, at_of (j := 0) rfl (iv_at (l := i0 :: rt) (i := 0) (x := i0) rfl), b, iv g, (i0 : Int), _, rfl, rfl, sP.seq hB, at_of rfl (iv_at hg0), l, bv left, _, g.getD i0 0, rfl, rfl, ?_, ?_, ?_⟩
            · rw [upd_ne lod]
              exact hl7
            · exact ixN_nat (by rw [bv_len, hI.llen]; exact glt)
            · refine ⟨_, left.set (g.getD i0 0) false, o ++ [i0], by rw [List.length_append]; rfl, rfl, same_put nl0 sP, ?_, ?_, hI'⟩
              · rw [upd_same, bv_set]
              · rw [upd_ne lod.symm, upd_same]
                unfold iv
                rw [List.map_append]
                rfl
    · have c2 : ¬ o.length < n := fun z => c1 (decide_eq_true (by rw [iv_len, iv_len, hG.len]; omega))
      refine ⟨_, rfl, q H' od s5 no0 ?_⟩
      unfold firstOf
      rw [ho, hI.done c2]
      rfl
/-- is_good(wishes, given) -/
def spGood (K : PySem.W.Frag) : Sp := fun vs H Q _ => ∃ (a b : Addr) (ws : Wishes) (g : List Nat) (n : Nat), vs = [.ref a, .ref b] ∧ Wsh K H a ws ∧ SqL K H b (iv g) ∧ RightW n ws ∧ Each n g ∧ n ≤ 1000 ∧
  ∀ H', Same H H' → Q (.bl (!(firstOf n ws g).isEmpty)) H'
theorem ok_good {f fD : Addr} {fd fdD : FuncData} {k : Nat} (F : Fun K "is_good" "is_good" sGood f fd)
    (GF : FnOk P w K mg base CX0 k fD fdD ["wishes", "given"] (spFirst K)) (mF : mg "first_order" = some (.ref fD)) (kF : PySem.W.keepIn K (.ref fD) = true) (bF : Binds K fdD ["wishes", "given"] []) :
    FnOk P w K mg base CX0 (k + 1) f fd ["wishes", "given"] (spGood K) := by
  refine F.ok scGood (fun vs H Q E h => ?_) (fun cdv A outer s H vs Q E hr h => ?_)
  · obtain ⟨a, b, _, _, _, rfl, _⟩ := h
    rfl
  · obtain ⟨a, b, ws, g, n, rfl, hA, hB, hW, hG, hn, q⟩ := h
    refine ⟨_, pss_one (ps_ret (pe_cmpR (op_neD hr.units) (pe_call GF hr (by rfl) mF kF bF .nil pass0 (pa_cons (pv 0) (pa_cons (pv 1) pa_nil))) (pe_lst pa_nil) (nomark _))), ?_⟩
    refine ⟨_, rfl, _, rfl, a, b, ws, g, n, rfl, hA, hB, hW, hG, hn, fun H1 p s1 np hp => ?_⟩
    refine ⟨Nat.zero_le _, fun q0 nq => ?_⟩
    have sq := same_upd (o := .lst []) nq
    refine ⟨_, _, .lst (SqL.of (by rw [sq _ _ hp, iv_ints])) (dpAll_ints K _ _), .lst (SqL.of (xs := ([] : List Int).map V.int) upd_same) (dpAll_ints K _ []), shaped_ints _, shaped_ints _, ?_⟩
    rw [iv_nil_eqv]
    exact q _ (s1.trans sq)
end
end My
set_option Elab.async false
set_option maxRecDepth 100000
set_option maxHeartbeats 4000000
namespace My
open PySem PySem.Spec PyProof.Rows L2
open Rc57 (orderOf Wishes looks rank holder)
abbrev sGroup : Stmt := top 9
abbrev sSome : Stmt := top 10
abbrev sLed : Stmt := top 11
abbrev nGroup : List Str := ["wishes", "own", "given", "owners", "looks", "things", "thing", "there", "person", "other", "stays"]
abbrev nLed : List Str := ["looks", "start", "there", "found", "at", "person"]
abbrev nSome : List Str := ["looks", "there", "person", "others"]
theorem scGroup : FnScope nGroup ["wishes", "own", "given"] (defScope sGroup) := ⟨rfl, rfl, rfl, by decide +kernel, rfl, by decide +kernel, by decide +kernel⟩
theorem scSome : FnScope nSome ["looks", "there"] (defScope sSome) := ⟨rfl, rfl, rfl, by decide +kernel, rfl, by decide +kernel, by decide +kernel⟩
theorem scLed : FnScope nLed ["looks", "start", "there"] (defScope sLed) := ⟨rfl, rfl, rfl, by decide +kernel, rfl, by decide +kernel, by decide +kernel⟩
/-- lists of people, one a person -/
structure Lks (K : PySem.W.Frag) (H : Hp) (a : Addr) (n : Nat) (E : Nat → List Nat) : Prop where
  ex : ∃ as : List Addr, as.length = n ∧ SqL K H a (as.map V.ref) ∧ ∀ i, i < n → ∃ c, as[i]? = some c ∧ SqL K H c (iv (E i))
theorem Lks.same {K : PySem.W.Frag} {H H' : Hp} {a : Addr} {n : Nat} {E : Nat → List Nat} (h : Lks K H a n E) (s : Same H H') : Lks K H' a n E := by
  obtain ⟨as, h0, h1, h2⟩ := h.ex
  refine ⟨as, h0, s.seq h1, fun i hi => ?_⟩
  obtain ⟨c, e1, e2⟩ := h2 i hi
  exact ⟨c, e1, s.seq e2⟩
theorem Lks.read {K : PySem.W.Frag} {H : Hp} {a : Addr} {n i : Nat} {E : Nat → List Nat} (h : Lks K H a n E) (hi : i < n) : ∃ vs c, SqL K H a vs ∧ vs[i]? = some (V.ref c) ∧ SqL K H c (iv (E i)) := by
  obtain ⟨as, h0, h1, h2⟩ := h.ex
  obtain ⟨c, e1, e2⟩ := h2 i hi
  refine ⟨_, c, h1, ?_, e2⟩
  rw [List.getElem?_map, e1]
  rfl
theorem fm_more {l : List Nat} {i x : Nat} (p : Nat → Bool) (h : l[i]? = some x) : (l.take (i + 1)).filter p = (l.take i).filter p ++ (if p x = true then [x] else []) := by
  rw [take_more h, List.filter_append, List.filter_cons]
  rfl
theorem fm_few {l : List Nat} {i : Nat} (p : Nat → Bool) : ((l.take i).filter p).length ≤ l.length :=
  Nat.le_trans (List.length_filter_le ..) (List.length_take_le' ..)
theorem nodup_few {n : Nat} {l : List Nat} (h : l.Nodup) (hlt : ∀ x ∈ l, x < n) : l.length ≤ n := by
  have := len_le_of_sub (l := l) (m := List.range n) h fun x hx => List.mem_range.mpr (hlt x hx)
  rw [List.length_range] at this
  exact this
theorem bv_at' {T : List Bool} {x : Nat} (h : x < T.length) : (bv T)[x]? = some (V.bl (T.getD x false)) := by
  refine bv_at ?_
  rw [List.getD_eq_getElem?_getD, List.getElem?_eq_getElem h]
  rfl
section
variable {P : Program} {w : World} {K : PySem.W.Frag} {mg : Str → Option Value} {base : Heap}
/-- led_to(looks, start, there) -/
def spLed (K : PySem.W.Frag) : Sp := fun vs H Q _ => ∃ (a b c : Addr) (n : Nat) (E : Nat → List Nat) (start : List Nat) (T : List Bool), vs = [.ref a, .ref b, .ref c] ∧ Lks K H a n E ∧ SqL K H b (iv start) ∧ SqL K H c (bv T) ∧
  T.length = n ∧ (∀ i, i < n → (E i).Nodup ∧ ∀ y ∈ E i, y < n) ∧ start.Nodup ∧ (∀ y ∈ start, y < n) ∧ n ≤ 1000 ∧
  ∀ H' p F, Same H H' → H p = none → H' p = some (.lst (iv F)) → (∀ x, x ∈ F ↔ Led E (fun i => T.getD i false) start x) → Q (.ref p) H'
theorem ok_led {f : Addr} {fd : FuncData} {k : Nat} (F : Fun K "led_to" "led_to" sLed f fd) (mLen : mg "len" = none) : FnOk P w K mg base CX0 (k + 1) f fd ["looks", "start", "there"] (spLed K) := by
  refine F.ok scLed (fun vs H Q E h => ?_) (fun cdv A outer s H vs Q Ex hr h => ?_)
  · obtain ⟨a, b, c, _, _, _, _, rfl, _⟩ := h
    rfl
  · obtain ⟨a, b, c, n, E, start, T, rfl, hA, hB, hC, hT, hE, hs1, hs2, hn, q⟩ := h
    refine ⟨_, pss_cons (ps_set (i := 3) scLed.nd rfl (Or.inr rfl) (pe_lc (own := [("person", 5)]) (g := gName 5) (by rfl) scLed.nd (pi_list (pv 1)) (blkOk_by (N := nLed) (sc := defScope sLed) (by decide +kernel)) (fun _ _ _ _ _ => pg_name (i := 5) scLed.nd rfl (Or.inl rfl))
          (fun _ _ _ _ _ => pts_one (pt_val (pe_ix (r := rIxL K) ix_list (pv 2) (pv 5) (fun _ _ => rfl)))) (fun _ _ _ _ _ => pv 5)))
      (pss_cons (ps_set (i := 4) scLed.nd rfl (Or.inl rfl) pe_int)
      (pss_cons (ps_while PassesOwn.never (pt_cmpR op_lt (pv 4) (pe_callB call_len_seq (by rfl) mLen PySem.boot_len (pa_cons (pv 3) pa_nil)) (nomark _))
        (pss_cons (ps_expr (pe_bm PySem.F.plainAttrs_list PySem.F.slot_list_extend PySem.F.type_list_extend mt_extend (pv 3) (pa_cons (pe_lc (own := [("person", 5)]) (g := gName 5) (by rfl) scLed.nd (pi_list (pe_ix ix_list (pv 0) (pe_ix ix_list (pv 3) (pv 4) (fun _ _ => rfl)) (fun _ _ => rfl))) (blkOk_by (N := nLed) (sc := defScope sLed) (by decide +kernel)) (fun _ _ _ _ _ => pg_name (i := 5) scLed.nd rfl (Or.inl rfl))
          (fun _ _ _ _ _ => pts_one (PW.pt (pw_and (pt_val (pe_ix (r := rIxL K) ix_list (pv 2) (pv 5) (fun _ _ => rfl))) (pw_and1 (pt_cmpR (r := rIn K true) op_notIn_seq (pv 5) (pv 3) (by rfl)))))) (fun _ _ _ _ _ => pv 5)) pa_nil)))
        (pss_one (ps_aug (i := 4) scLed.nd rfl (Or.inl rfl) pe_int ip_add))))
      (pss_one (ps_ret (pv 3))))), ?_⟩
    -- found
    refine ⟨_, rfl, b, rfl, ⟨_, hB⟩, fun D hD => ?_⟩
    refine lc_list (K := K) (a := b) (xs := iv start) (fun i H' => Same H H' ∧ H' D = some (.lst (iv ((start.take i).filter fun x => T.getD x false)))) ⟨same_upd hD, upd_same⟩ (fun i H' _ h => h.1.seq hB) ?_ ?_
    · rintro i y H' hi ⟨sm, hD'⟩
      obtain ⟨z, hz, rfl⟩ := iv_get hi
      have hzn := hs2 z (List.mem_of_getElem? hz)
      refine ⟨rfl, _, rfl, _, rfl, c, bv T, (z : Int), _, rfl, rfl, sm.seq hC, at_of rfl (bv_at' (by omega)), _, rfl, ?_⟩
      have e := fm_more (fun x => T.getD x false) hz
      refine ite2 (fun c => ?_) (fun c => ?_)
      · rw [if_pos c] at e
        refine ⟨_, rfl, _, hD', ?_, ⟨same_put hD sm, ?_⟩⟩
        · rw [iv_len]
          exact small1000 (Nat.le_trans (fm_few _) (Nat.le_trans (nodup_few hs1 hs2) hn))
        · rw [upd_same, e]
          unfold iv
          rw [List.map_append]
          rfl
      · rw [if_neg c, List.append_nil] at e
        exact ⟨sm, by rw [e]; exact hD'⟩
    · rintro H1 ⟨s1, hD1⟩
      rw [iv_len, List.take_length] at hD1
      refine ⟨fun m σ H' => ∃ (at_ : Nat) (F : List Nat), m = n - at_ ∧ σ = [some (.ref a), some (.ref b), some (.ref c), some (.ref D), some (.int (at_ : Int)), none] ∧ Same H H' ∧ H' D = some (.lst (iv F)) ∧ LedInv n E (fun i => T.getD i false) start at_ F,
        ⟨_, 0, _, rfl, rfl, s1, hD1, LedInv.start hs1 hs2⟩, ?_⟩
      rintro m σ H' ⟨at_, F, rfl, rfl, s5, hF, hI⟩
      refine ⟨_, rfl, _, rfl, D, _, rfl, .inl (SqL.of hF), _, _, rfl, rfl, _, rfl, ?_⟩
      refine ite2 (fun c1 => ?_) (fun c1 => ?_)
      · have c2 : at_ < F.length := by
          have := of_decide_eq_true c1
          rw [iv_len] at this
          omega
        have hx : F[at_]? = some F[at_] := List.getElem?_eq_getElem c2
        generalize F[at_] = x at hx
        obtain ⟨hxn, hI'⟩ := hI.turn hE hx
        have hfew := hI.few
        have hfew' := hI'.few
        obtain ⟨vs, cc, r1, r2, r3⟩ := (hA.same s5).read hxn
        refine ⟨fun σ H' => ∃ (F' : List Nat), σ = [some (.ref a), some (.ref b), some (.ref c), some (.ref D), some (.int ((at_ + 1 : Nat) : Int)), none] ∧ Same H H' ∧ H' D = some (.lst (iv F')) ∧ LedInv n E (fun i => T.getD i false) start (at_ + 1) F',
          fun σ' H'' ⟨F', z⟩ => ⟨n - (at_ + 1), by omega, at_ + 1, F', rfl, z⟩, ?_⟩
        refine ⟨.ref D, rfl, .inl ⟨rfl, _, SqL.of hF⟩, ?_⟩
        refine ⟨_, rfl, _, rfl, _, rfl, D, _, (at_ : Int), _, rfl, rfl, SqL.of hF, at_of rfl (iv_at hx), a, vs, (x : Int), _, rfl, rfl, r1, at_of rfl r2, cc, rfl, ⟨_, r3⟩, fun D2 hD2 => ?_⟩
        have DD : D ≠ D2 := ne_of_none hF hD2
        refine lc_list (K := K) (a := cc) (xs := iv (E x)) (fun i H2 => Same H' H2 ∧ H2 D2 = some (.lst (iv (((E x).take i).filter fun y => T.getD y false && !F.contains y)))) ⟨same_upd hD2, upd_same⟩ (fun i H2 _ h => h.1.seq r3) ?_ ?_
        · rintro i y H2 hi ⟨sm, hDl⟩
          obtain ⟨z, hz, rfl⟩ := iv_get hi
          have hzn := (hE x hxn).2 z (List.mem_of_getElem? hz)
          refine ⟨rfl, _, rfl, _, rfl, c, bv T, (z : Int), _, rfl, rfl, (s5.trans sm).seq hC, at_of rfl (bv_at' (by omega)), _, rfl, ?_⟩
          have e := fm_more (fun y => T.getD y false && !F.contains y) hz
          refine ite2 (fun c1 => ?_) (fun c1 => ?_)
          · refine ⟨_, rfl, _, rfl, D, _, rfl, .inl (SqL.of (sm _ _ hF)), rfl, iv_flat _, _, rfl, ?_⟩
            rw [c1, Bool.true_and] at e
            show if (!inV (.int (z : Int)) (iv F)) = true then _ else _
            rw [inV_iv]
            refine ite2 (fun c => ?_) (fun c => ?_)
            · rw [if_pos c] at e
              refine ⟨_, rfl, _, hDl, ?_, ⟨same_put hD2 sm, ?_⟩⟩
              · rw [iv_len]
                exact small1000 (Nat.le_trans (fm_few _) (Nat.le_trans (nodup_few (hE x hxn).1 (hE x hxn).2) hn))
              · rw [upd_same, e]
                unfold iv
                rw [List.map_append]
                rfl
            · rw [if_neg c, List.append_nil] at e
              exact ⟨sm, by rw [e]; exact hDl⟩
          · have c2 : T.getD z false = false := by cases q : T.getD z false; rfl; exact absurd q c1
            rw [c2, Bool.false_and, if_neg (by decide), List.append_nil] at e
            refine iteF ?_
            exact ⟨sm, by rw [e]; exact hDl⟩
        · rintro H2 ⟨sm, hDl⟩
          rw [iv_len, List.take_length] at hDl
          have hF2 : H2 D = some (.lst (iv F)) := sm _ _ hF
          refine ⟨D, D2, _, _, rfl, rfl, hF2, hDl, ?_, ?_⟩
          · rw [iv_len, iv_len]
            rw [List.length_append] at hfew'
            exact Nat.le_of_lt (small1000 (by omega))
          · refine ⟨_, rfl, _, _, rfl, rfl, F ++ (E x).filter fun y => T.getD y false && !F.contains y, rfl, same_put hD (s5.trans sm), ?_, hI'⟩
            rw [upd_same]
            unfold iv
            rw [List.map_append]
      · refine ⟨_, rfl, q H' D F s5 hD hF (hI.done fun z => c1 (decide_eq_true (by rw [iv_len]; omega)))⟩
/-- some_do_better(looks, there) -/
def spSome (K : PySem.W.Frag) : Sp := fun vs H Q _ => ∃ (a c : Addr) (n : Nat) (E : Nat → List Nat) (T : List Bool), vs = [.ref a, .ref c] ∧ Lks K H a n E ∧ SqL K H c (bv T) ∧
  T.length = n ∧ (∀ i, i < n → (E i).Nodup ∧ ∀ y ∈ E i, y < n) ∧ n ≤ 1000 ∧
  ∀ H' b, Same H H' → (b = true ↔ Better n E fun i => T.getD i false) → Q (.bl b) H'
theorem cut_last (l : List Nat) : cutV (iv l) none (some (-1)) = iv (l.take (l.length - 1)) := by
  have e : HT.sIx (iv l).length (iv l).length (some (-1)) = l.length - 1 := by
    show (if (-1 : Int) < 0 then ((-1 : Int) + ((iv l).length : Int)).toNat else min (-1 : Int).toNat (iv l).length) = _
    rw [if_pos (by decide), iv_len]
    omega
  unfold cutV
  rw [e, HT.sIx_none]
  unfold iv
  rw [List.drop_zero, List.map_take]
  rfl
theorem ok_some {f fL : Addr} {fd fdL : FuncData} {k : Nat} (F : Fun K "some_do_better" "some_do_better" sSome f fd) (mEn : mg "enumerate" = none)
    (GL : FnOk P w K mg base CX0 k fL fdL ["looks", "start", "there"] (spLed K)) (mL : mg "led_to" = some (.ref fL)) (kL : PySem.W.keepIn K (.ref fL) = true) (bL : Binds K fdL ["looks", "start", "there"] []) :
    FnOk P w K mg base CX0 (k + 1) f fd ["looks", "there"] (spSome K) := by
  refine F.ok scSome (fun vs H Q E h => ?_) (fun cdv A outer s H vs Q Ex hr h => ?_)
  · obtain ⟨a, c, _, _, _, rfl, _⟩ := h
    rfl
  · obtain ⟨a, c, n, E, T, rfl, hA, hC, hT, hE, hn, q⟩ := h
    refine ⟨_, pss_cons (ps_for PassesOwn.never rfl (pi_enum (by rfl) mEn (pa_cons (pv 0) pa_nil)) (pg_tup rfl (pgs_cons (pg_name (i := 2) scSome.nd rfl (.inl rfl)) (pgs_cons (pg_name (i := 3) scSome.nd rfl (.inl rfl)) pgs_nil)))
        (pss_one (ps_if (pt_cmpR op_in_seq (pv 2) (pe_call GL hr (by rfl) mL kL bL .nil pass0 (pa_cons (pv 0) (pa_cons (pe_slice sl_list (pv 3) po_none (po_some (pe_un un_neg pe_int))) (pa_cons (pv 1) pa_nil)))) (by rfl))
          (pss_one (ps_ret pe_bl)) pss_nil)))
      (pss_one (ps_ret pe_bl)), ?_⟩
    obtain ⟨as, hlen, hAs, hrd⟩ := hA.ex
    refine ⟨_, rfl, a, _, rfl, hAs, for_it (walk_enum (K := K) (a := a) (xs := as.map V.ref)) (fun i σ H' => ∃ (x2 x3 : Option V), σ = [some (.ref a), some (.ref c), x2, x3] ∧ Same H H' ∧ ∀ p, p < i → ¬ Led E (fun i => T.getD i false) ((E p).take ((E p).length - 1)) p)
      ⟨none, none, rfl, Same.refl H, fun p hp => absurd hp (Nat.not_lt_zero _)⟩ (fun i σ H' _ ⟨_, _, _, s5, _⟩ => s5.seq hAs) ?_ ?_⟩
    · rintro i y σ H1 H2 hi ⟨x2, x3, rfl, s5, hno⟩ ⟨T0, x, z, rfl, nT, rfl, e1, e2⟩
      have hin : i < n := by
        rw [List.length_map, hlen] at hi
        exact hi
      obtain ⟨cc, hc1, hc2⟩ := hrd i hin
      have e3 : (as.map V.ref)[i]? = some z := e2
      rw [List.getElem?_map, hc1] at e3
      cases e3
      cases e1
      have sT := same_upd (o := .tup [V.int (i : Nat), V.ref cc]) nT
      have s6 := s5.trans sT
      refine ⟨T0, _, rfl, .inl (.inl upd_same), rfl, _, _, rfl, _, _, rfl, rfl, ?_⟩
      refine ⟨_, rfl, _, rfl, _, rfl, 1, rfl, _, rfl, cc, _, rfl, s6.seq hc2, fun p np => ?_⟩
      have s7 := s6.trans (same_upd (o := .lst (cutV (iv (E i)) none (some (-1)))) np)
      refine ⟨_, rfl, a, p, c, n, E, (E i).take ((E i).length - 1), T, rfl, hA.same s7, SqL.of ?_, s7.seq hC, hT, hE, (hE i hin).1.sublist (List.take_sublist _ _), fun y hy => (hE i hin).2 y (List.mem_of_mem_take hy), hn, fun H3 r F s8 nr hr hF => ?_⟩
      · rw [upd_same, cut_last]
      · refine ⟨r, _, rfl, .inl (SqL.of hr), rfl, iv_flat _, _, rfl, ?_⟩
        show if inV (.int (i : Int)) (iv F) = true then _ else _
        rw [inV_iv]
        refine ite2 (fun c => ?_) (fun c => ?_)
        · have hL := (hF i).mp (List.contains_iff_mem.mp c)
          exact q _ true (s7.trans s8) ⟨fun _ => ⟨i, hin, hL⟩, fun _ => rfl⟩
        · refine ⟨_, _, rfl, s7.trans s8, fun p hp => ?_⟩
          by_cases e : p = i
          · rw [e]
            exact fun z => c (List.contains_iff_mem.mpr ((hF i).mpr z))
          · exact hno p (by omega)
    · rintro σ H' ⟨x2, x3, rfl, s5, hno⟩
      rw [List.length_map, hlen] at hno
      exact q H' false s5 ⟨(fun z => by cases z), (fun ⟨p, hp, hL⟩ => absurd hL (hno p hp))⟩
theorem cut_to (l : List Nat) (j : Nat) (h : j ≤ l.length) : cutV (iv l) none (some (j : Int)) = iv (l.take j) := by
  unfold cutV
  rw [HT.sIx_nat, HT.sIx_none, iv_len, Nat.min_eq_left h]
  unfold iv
  rw [List.drop_zero, List.map_take]
  rfl
theorem holder_at {q : List Nat} {x : Nat} (hx : x ∈ q) : q[holder q x]? = some x := by
  have h1 := holder_lt hx
  rw [List.getElem?_eq_getElem h1, ← getD_of_lt h1, holder_has hx]
theorem holder_first {q : List Nat} (hq : q.Nodup) {x m y : Nat} (hm : m < holder q x) (hy : q[m]? = some y) : y ≠ x := fun e => by
  have hl := (List.getElem?_eq_some_iff.mp hy).1
  have e2 : q.getD m 0 = y := by rw [List.getD_eq_getElem?_getD, hy]; rfl
  have := holder_own hq hl
  rw [e2, e] at this
  omega
/-- least_group(wishes, own, given) -/
def spGroup (K : PySem.W.Frag) : Sp := fun vs H Q _ => ∃ (a b c : Addr) (ws : Wishes) (own g : List Nat) (n : Nat), vs = [.ref a, .ref b, .ref c] ∧ Wsh K H a ws ∧ SqL K H b (iv own) ∧ SqL K H c (iv g) ∧ RightW n ws ∧ Each n own ∧ Each n g ∧ n ≤ 1000 ∧
  ∀ H' p, Same H H' → H p = none → H' p = some (.lst (iv (groupOf n ws own g))) → Q (.ref p) H'
theorem ok_group {f fO fS : Addr} {fd fdO fdS : FuncData} {k kO kS : Nat} (F : Fun K "least_group" "least_group" sGroup f fd) (mLen : mg "len" = none) (mEn : mg "enumerate" = none) (mZip : mg "zip" = none) (mRg : mg "range" = none)
    (GO : FnOk P w K mg base CX0 kO fO fdO ["own"] (spOwners K)) (mO : mg "owners_of" = some (.ref fO)) (pO : PySem.W.keepIn K (.ref fO) = true) (bO : Binds K fdO ["own"] []) (lO : kO ≤ k)
    (GS : FnOk P w K mg base CX0 kS fS fdS ["looks", "there"] (spSome K)) (mS : mg "some_do_better" = some (.ref fS)) (pS : PySem.W.keepIn K (.ref fS) = true) (bS : Binds K fdS ["looks", "there"] []) (lS : kS ≤ k) :
    FnOk P w K mg base CX0 (k + 1) f fd ["wishes", "own", "given"] (spGroup K) := by
  refine F.ok scGroup (fun vs H Q E h => ?_) (fun cdv A outer s H vs Q Ex hr h => ?_)
  · obtain ⟨a, b, c, _, _, _, _, rfl, _⟩ := h
    rfl
  · obtain ⟨a, b, c, ws, own, g, n, rfl, hA, hB, hC, hW, hO, hG, hn, q⟩ := h
    refine ⟨_, pss_cons (ps_set (i := 3) scGroup.nd rfl (Or.inr rfl) (pe_call GO (hr.mono lO) (by rfl) mO pO bO .nil pass0 (pa_cons (pv 1) pa_nil)))
      (pss_cons (ps_set (i := 4) scGroup.nd rfl (Or.inl rfl) (pe_lst pa_nil))
      (pss_cons (ps_for PassesOwn.never rfl (pi_zip (by rfl) mZip (pa_cons (pv 0) (pa_cons (pv 2) pa_nil))) (pg_tup rfl (pgs_cons (pg_name (i := 5) scGroup.nd rfl (.inl rfl)) (pgs_cons (pg_name (i := 6) scGroup.nd rfl (.inl rfl)) pgs_nil)))
        (pss_one (ps_expr (pe_bm PySem.F.plainAttrs_list PySem.F.slot_list_append PySem.F.type_list_append mt_append (pv 4) (pa_cons
          (pe_lc (own := [("other", 9)]) (g := gName 9) (by rfl) scGroup.nd (pi_list (pe_slice sl_list (pv 5) po_none (po_some (pe_op op_add (pe_bm PySem.F.plainAttrs_list PySem.F.slot_list_index PySem.F.type_list_index mt_index (pv 5) (pa_cons (pv 6) pa_nil)) pe_int)))) (blkOk_by (N := nGroup) (sc := defScope sGroup) (by decide +kernel)) (fun _ _ _ _ _ => pg_name (i := 9) scGroup.nd rfl (Or.inl rfl))
            (fun _ _ _ _ _ => pts_nil) (fun _ _ _ _ _ => pe_ix (r := rIxL K) ix_list (pv 3) (pv 9) (fun _ _ => rfl))) pa_nil)))))
      (pss_cons (ps_set (i := 7) scGroup.nd rfl (Or.inl rfl) (pe_op op_rep (pe_lst (pa_cons pe_bl pa_nil)) (pe_callB call_len_seq (by rfl) mLen PySem.boot_len (pa_cons (pv 2) pa_nil))))
      (pss_cons (ps_if (pt_not (pt_val (pe_call GS (hr.mono lS) (by rfl) mS pS bS .nil pass0 (pa_cons (pv 4) (pa_cons (pv 7) pa_nil))))) (pss_one (ps_ret (pe_lst pa_nil))) pss_nil)
      (pss_cons (ps_for PassesOwn.never rfl (pi_range3 (by rfl) mRg (pa_cons (pe_op op_sub (pe_callB call_len_seq (by rfl) mLen PySem.boot_len (pa_cons (pv 2) pa_nil)) pe_int) (pa_cons (pe_un un_neg pe_int) (pa_cons (pe_un un_neg pe_int) pa_nil)))) (pg_name (i := 8) scGroup.nd rfl (.inl rfl))
        (pss_cons (ps_asg pe_bl (pg_sub (pv 7) (pv 8) set_list))
        (pss_one (ps_asg (pe_not (pe_call GS (hr.mono lS) (by rfl) mS pS bS .nil pass0 (pa_cons (pv 4) (pa_cons (pv 7) pa_nil)))) (pg_sub (pv 7) (pv 8) set_list)))))
      (pss_one (ps_ret (pe_lc (own := [("person", 8), ("stays", 10)]) (g := gTup K 2 (gCons (gName 8) (gCons (gName 10) gNil))) (by rfl) scGroup.nd (pi_enum (by rfl) mEn (pa_cons (pv 7) pa_nil)) (blkOk_by (N := nGroup) (sc := defScope sGroup) (by decide +kernel))
        (fun _ _ _ _ _ => pg_tup rfl (pgs_cons (pg_name (i := 8) scGroup.nd rfl (.inl rfl)) (pgs_cons (pg_name (i := 10) scGroup.nd rfl (.inl rfl)) pgs_nil)))
        (fun _ _ _ _ _ => pts_one (pt_val (pv 10))) (fun _ _ _ _ _ => pv 8))))))))), ?_⟩
    refine ⟨_, rfl, b, own, n, rfl, hB, hO, hn, fun H1 ow owners s1 now how hS => ?_⟩
    refine ⟨Nat.zero_le _, fun lk nlk => ?_⟩
    have nlk0 : H lk = none := s1.free nlk
    have s2 := same_upd (o := .lst []) nlk
    obtain ⟨as, hAs, hrd⟩ := hA.ex
    have asn : n ≤ as.length := by
      rcases Nat.eq_zero_or_pos n with z | z
      · omega
      · have hl : n - 1 < ws.length := by rw [hW.1]; omega
        obtain ⟨r, e1, _⟩ := hrd (n - 1) (ws[n - 1]'hl) (List.getElem?_eq_getElem hl)
        have := (List.getElem?_eq_some_iff.mp e1).1
        omega
    have oLen : owners.length = n := by rw [hS.len, hO.len]
    refine ⟨_, rfl, _, rfl, a, c, _, _, rfl, (s1.trans s2).seq hAs, (s1.trans s2).seq hC, for_it (walk_zip (K := K) (a := a) (b := c) (xs := as.map V.ref) (ys := iv g) (n := n) (by rw [List.length_map, iv_len, hG.len]; omega))
      (fun i σ H' => ∃ (x5 x6 : Option V) (cs : List Addr), σ = [some (.ref a), some (.ref b), some (.ref c), some (.ref ow), some (.ref lk), x5, x6, none, none, none, none] ∧ Same H1 H' ∧ H' lk = some (.lst (cs.map V.ref)) ∧ cs.length = i ∧
        ∀ j, j < i → ∃ r, cs[j]? = some r ∧ r ≠ lk ∧ H' r = some (.lst (iv (lookE ws own g j))))
      ⟨none, none, [], rfl, s2, upd_same, rfl, fun j hj => absurd hj (Nat.not_lt_zero _)⟩ (fun i σ H' _ ⟨_, _, _, _, s5, _⟩ => ⟨(s1.trans s5).seq hAs, (s1.trans s5).seq hC⟩) ?_ ?_⟩
    · rintro i y σ H2 H3 hin ⟨x5, x6, cs, rfl, s5, hlk, hcl, hcs⟩ ⟨T0, x, z, rfl, nT, rfl, e1, e2⟩
      have hl : i < ws.length := by rw [hW.1]; omega
      obtain ⟨cc, c1, c2⟩ := hrd i (orderOf ws i) (by
        unfold orderOf
        rw [List.getD_eq_getElem?_getD, List.getElem?_eq_getElem hl]
        rfl)
      have e3 : (as.map V.ref)[i]? = some x := e1
      rw [List.getElem?_map, c1] at e3
      cases e3
      obtain ⟨t, ht, rfl⟩ := iv_get e2
      have egt : g.getD i 0 = t := by rw [List.getD_eq_getElem?_getD, ht]; rfl
      have EW := hW.2 i hin
      have htn : t < n := hG.lt t (List.mem_of_getElem? ht)
      have hto := EW.all t htn
      have hra := holder_lt hto
      have sT := same_upd (o := .tup [V.ref cc, V.int (t : Int)]) nT
      have s6 := s5.trans sT
      have s7 := s1.trans s6
      refine ⟨T0, _, rfl, .inl (.inl upd_same), rfl, _, _, rfl, _, _, rfl, rfl, ?_⟩
      refine ⟨.ref lk, rfl, .inl ⟨rfl, _, SqL.of (sT _ _ hlk)⟩, ?_⟩
      refine ⟨_, rfl, _, rfl, .inl ⟨rfl, _, s7.seq c2⟩, _, rfl, cc, _, _, holder (orderOf ws i) t, _, rfl, rfl, s7.seq c2, rfl, iv_flat _, iv_at (holder_at hto), by rw [eqV_nat, beq_self_eq_true], fun m z hm hz => ?_, ?_⟩
      · obtain ⟨y, hy, rfl⟩ := iv_get hz
        rw [eqV_nat, beq_eq_false_iff_ne]
        exact holder_first EW.nodup hm hy
      · refine ⟨_, _, rfl, rfl, _, rfl, cc, _, rfl, s7.seq c2, fun p np => ?_⟩
        have ecut : cutV (iv (orderOf ws i)) none (some (((holder (orderOf ws i) t : Nat) : Int) + 1)) = iv ((orderOf ws i).take (holder (orderOf ws i) t + 1)) := cut_to (orderOf ws i) (holder (orderOf ws i) t + 1) (by omega)
        rw [ecut]
        have eE : lookE ws own g i = ((orderOf ws i).take (holder (orderOf ws i) t + 1)).map (holder own) := by
          unfold lookE
          rw [egt]
          rfl
        have hcutm : ∀ y ∈ (orderOf ws i).take (holder (orderOf ws i) t + 1), y < n := fun y hy => EW.lt y (List.mem_of_mem_take hy)
        have hcutl : ((orderOf ws i).take (holder (orderOf ws i) t + 1)).length ≤ n := by
          rw [List.length_take, EW.len]
          omega
        generalize ((orderOf ws i).take (holder (orderOf ws i) t + 1)) = qs at eE hcutm hcutl
        have sp := same_upd (o := .lst (iv qs)) np
        refine ⟨p, rfl, ⟨_, SqL.of upd_same⟩, fun D hD => ?_⟩
        have s8 := s6.trans sp
        have nD1 : H1 D = none := s8.free hD
        have nDk : lk ≠ D := ne_of_none (sp _ _ (sT _ _ hlk)) hD
        refine lc_list (K := K) (a := p) (xs := iv qs) (fun j H4 => Same (upd _ p (.lst (iv qs))) H4 ∧ H4 D = some (.lst (iv ((qs.take j).map (holder own))))) ⟨same_upd hD, upd_same⟩ (fun j H4 _ h => h.1.seq (SqL.of upd_same)) ?_ ?_
        · rintro j y H4 hj ⟨sm, hDl⟩
          obtain ⟨z, hz, rfl⟩ := iv_get hj
          have hzn := hcutm z (List.mem_of_getElem? hz)
          have hjl := (List.getElem?_eq_some_iff.mp hz).1
          have ez : owners[z]? = some (holder own z) := by
            rw [← hS.owner hO hzn, List.getD_eq_getElem?_getD, List.getElem?_eq_getElem (by omega)]
            rfl
          refine ⟨rfl, ?_⟩
          unfold tYes
          refine iteT ?_
          refine ⟨_, rfl, _, rfl, ow, iv owners, (z : Int), _, rfl, rfl, (s8.trans sm).seq (SqL.of how), at_of rfl (iv_at ez), ?_⟩
          refine ⟨_, hDl, ?_, same_put hD sm, ?_⟩
          · rw [iv_len, List.length_map, List.length_take]
            exact small1000 (by omega)
          · rw [upd_same, take_more hz, List.map_append]
            unfold iv
            rw [List.map_append]
            rfl
        · rintro H4 ⟨sm, hDl⟩
          rw [iv_len, List.take_length, ← eE] at hDl
          have hlk4 : H4 lk = some (.lst (cs.map V.ref)) := sm _ _ (sp _ _ (sT _ _ hlk))
          refine ⟨lk, _, _, rfl, rfl, hlk4, small1000 (by rw [List.length_map, hcl]; omega), ?_⟩
          refine ⟨_, _, cs ++ [D], rfl, same_put nlk (s8.trans sm), ?_, by rw [List.length_append, hcl]; rfl, fun j hj => ?_⟩
          · rw [upd_same, List.map_append]
            rfl
          · by_cases e : j < i
            · obtain ⟨r, r1, r2, r3⟩ := hcs j e
              refine ⟨r, by rw [List.getElem?_append_left (by omega)]; exact r1, r2, ?_⟩
              rw [upd_ne r2]
              exact sm _ _ (sp _ _ (sT _ _ r3))
            · have : j = i := by omega
              subst this
              refine ⟨D, ?_, nDk.symm, ?_⟩
              · rw [List.getElem?_append_right (by omega), hcl, Nat.sub_self]
                rfl
              · rw [upd_ne nDk.symm]
                exact hDl
    · rintro σ H' ⟨x5, x6, cs, rfl, s5, hlk, hcl, hcs⟩
      have hLk : Lks K H' lk n (lookE ws own g) := ⟨cs, hcl, SqL.of hlk, fun i hi => by
        obtain ⟨r, r1, _, r3⟩ := hcs i hi
        exact ⟨r, r1, SqL.of r3⟩⟩
      have hEok := fun i (hi : i < n) => look_ok (g := g) hW hO hi
      have s6 := s1.trans s5
      -- there
      refine ⟨by decide, fun p1 n1 => ?_⟩
      have s7 := s6.trans (same_upd (o := .lst [V.bl true]) n1)
      have n1k : lk ≠ p1 := ne_of_none hlk n1
      refine ⟨_, rfl, c, _, rfl, .inl (s7.seq hC), p1, _, _, rfl, rfl, upd_same, by rw [iv_len, hG.len]; omega, by rw [iv_len, hG.len]; omega, ?_, fun th nth => ?_⟩
      · rw [iv_len, hG.len]
        show 1 * ((n : Int)).toNat ≤ sizeLine
        exact Nat.le_of_lt (small1000 (by omega))
      rw [iv_len, hG.len, Int.toNat_natCast, rep_bl]
      have sth := (same_upd (o := .lst [V.bl true]) n1).trans (same_upd (o := .lst (bv (List.replicate n true))) nth)
      have hLk2 := hLk.same sth
      have s8 := s6.trans sth
      have nth0 : H th = none := s7.free nth
      have nthH : H' th = none := (same_upd (o := .lst [V.bl true]) n1).free nth
      refine ⟨_, rfl, _, rfl, lk, th, n, lookE ws own g, List.replicate n true, rfl, hLk2, SqL.of upd_same, List.length_replicate, hEok, hn, fun H5 b5 s9 hb5 => ?_⟩
      refine ⟨_, rfl, ite2 (fun c5 => ?_) (fun c5 => ?_)⟩
      · -- nobody
        have hb : b5 = false := by cases b5; rfl; cases c5
        refine ⟨Nat.zero_le _, fun r nr => ?_⟩
        refine q _ r ((s8.trans s9).trans (same_upd nr)) ((s8.trans s9).free nr) ?_
        rw [upd_same]
        unfold groupOf
        cases hf : (List.range (2 ^ n)).find? fun k => Rc57.blocks n ws own g k with
        | none => rfl
        | some k =>
          have := hb5.mpr ((better_some hW hO hG).mpr ⟨k, hf⟩)
          rw [hb] at this
          cases this
      · have hb : b5 = true := by cases b5; exact absurd rfl c5; rfl
        obtain ⟨k0, hk0⟩ := (better_some hW hO hG).mp (hb5.mp hb)
        have s10 := s8.trans s9
        have hth5 : H5 th = some (.lst (bv (List.replicate n true))) := s9 _ _ upd_same
        have eg : ((iv g).length : Int) = (n : Int) := by rw [iv_len, hG.len]
        refine ⟨_, rfl, c, _, rfl, .inl (s10.seq hC), _, _, rfl, rfl, 1, rfl, 1, rfl, ((iv g).length : Int) - 1, -1, -1, n, rfl, ?_, ?_⟩
        · have := RgC.neg (i := ((iv g).length : Int) - 1) (j := -1) (by omega) (by omega) (by omega) (by omega)
          rw [show (((iv g).length : Int) - 1 - -1).toNat = n by omega] at this
          exact this
        have sk5 : Same H' H5 := sth.trans s9
        generalize H' = Hk at *
        refine for_it walk_rangeC (fun i σ H' => ∃ (x8 : Option V) (T : List Bool), σ = [some (.ref a), some (.ref b), some (.ref c), some (.ref ow), some (.ref lk), x5, x6, some (.ref th), x8, none, none] ∧ Same Hk H' ∧
          H' th = some (.lst (bv T)) ∧ GrpInv n k0 (n - i) T) ⟨none, _, rfl, sk5, hth5, GrpInv.start⟩ (fun _ _ _ _ _ => trivial) ?_ ?_
        · rintro i y σ H6 H7 hin ⟨x8, T, rfl, s11, hT6, hI⟩ ⟨rfl, rfl⟩
          have ei : (((iv g).length : Int) - 1 + ((i : Nat) : Int) * -1) = ((n - i - 1 : Nat) : Int) := by omega
          show gName 8 (V.int (((iv g).length : Int) - 1 + ((i : Nat) : Int) * -1)) _ H7 _
          rw [ei]
          obtain ⟨j, hj⟩ : ∃ j, n - i = j + 1 := ⟨n - i - 1, by omega⟩
          rw [hj] at hI
          rw [show n - i - 1 = j by omega]
          have hjn : j < n := by omega
          have hjT : j < T.length := by rw [hI.len]; exact hjn
          refine ⟨_, rfl, _, rfl, th, bv T, _, j, rfl, rfl, hT6, ixN_nat (by rw [bv_len]; exact hjT), ?_⟩
          have s12 := same_put (o := .lst ((bv T).set j (.bl false))) nthH s11
          refine ⟨_, rfl, _, rfl, lk, th, n, lookE ws own g, T.set j false, rfl, hLk.same s12, SqL.of ?_, ?_, hEok, hn, fun H8 b8 s13 hb8 => ?_⟩
          · rw [upd_same, bv_set]
          · rw [List.length_set]; exact hI.len
          · have hT8 : H8 th = some (.lst (bv (T.set j false))) := s13 _ _ (by rw [upd_same, bv_set])
            refine ⟨_, rfl, _, rfl, _, rfl, th, bv (T.set j false), _, j, rfl, rfl, hT8, ixN_nat (by rw [bv_len, List.length_set]; exact hjT), ?_⟩
            refine ⟨_, (T.set j false).set j (!b8), rfl, same_put nthH (s12.trans s13), ?_, ?_⟩
            · rw [upd_same, bv_set]
            · rw [show n - (i + 1) = j by omega]
              exact hI.turn hW hO hG hk0 hjn hb8
        · rintro σ H6 ⟨x8, T, rfl, s11, hT6, hI⟩
          rw [Nat.sub_self] at hI
          have hres := hI.done hk0
          have s12 := s6.trans s11
          refine ⟨_, rfl, th, bv T, rfl, SqL.of hT6, fun D hD => ?_⟩
          have nD : H D = none := s12.free hD
          refine lc_it (walk_enum (K := K) (a := th) (xs := bv T)) (fun i H2 => Same H6 H2 ∧ H2 D = some (.lst (iv (((List.range n).take i).filter fun p => T.getD p false)))) ⟨same_upd hD, upd_same⟩ (fun i H2 _ h => h.1.seq (SqL.of hT6)) ?_ ?_
          · rintro i y H7 H8 hi ⟨sm, hDl⟩ ⟨T0, x, z, rfl, nT, rfl, e1, e2⟩
            have hin : i < n := by
              rw [bv_len, hI.len] at hi
              exact hi
            have e3 : (bv T)[i]? = some z := e2
            rw [bv_at' (by rw [hI.len]; exact hin)] at e3
            cases e3
            cases e1
            have sT := same_upd (o := .tup [V.int (i : Nat), V.bl (T.getD i false)]) nT
            refine ⟨T0, _, rfl, .inl (.inl upd_same), rfl, _, _, rfl, _, _, rfl, rfl, rfl, ?_⟩
            refine ⟨_, rfl, _, rfl, ?_⟩
            have em := filt_more (fun p => T.getD p false) hin
            have sN := sm.trans sT
            refine ite2 (fun c => ?_) (fun c => ?_)
            · rw [if_pos c] at em
              refine ⟨_, rfl, _, sT _ _ hDl, ?_, same_put hD sN, ?_⟩
              · rw [iv_len]
                exact small1000 (Nat.le_trans (filt_few _) hn)
              · rw [upd_same, em]
                unfold iv
                rw [List.map_append]
                rfl
            · rw [if_neg c, List.append_nil] at em
              exact ⟨sN, by rw [em]; exact sT _ _ hDl⟩
          · rintro H7 ⟨sm, hDl⟩
            rw [bv_len, hI.len, List.take_of_length_le (by rw [List.length_range]; exact Nat.le_refl _), hres] at hDl
            exact q _ D (s12.trans sm) nD hDl
end
end My
set_option Elab.async false
set_option maxRecDepth 100000
set_option maxHeartbeats 4000000
namespace My
open PySem PySem.Spec PyProof.Rows L2
section
variable {X : Cx}
/-- xs[i], for xs[i] += e -/
theorem get_list : PGet X (rIxL X.K) := by
  intro pins s σ H o i ov iv Q I ro ri h
  obtain ⟨p, xs, k, z, rfl, rfl, hq, he, q⟩ := h
  cases ro
  obtain ⟨t, rfl⟩ := ri
  obtain ⟨its, r, pl, hz⟩ := I.list hq
  obtain ⟨j, h1, h2, h3, h4, h5⟩ := atI_get he
  obtain ⟨w, ew, rw'⟩ := r.get h2
  have hl := r.length
  have hn := line63
  have fin : EP X pins σ Q w s := ⟨z, H, I, rw', q⟩
  by_cases h0 : 0 ≤ k
  · have hj : k.toNat = j := by
      rw [seqIndex_of h0 h5] at h1
      exact Option.some.inj h1
    exact wpAny_getItem_list pl.isList h0 (by omega) (by rw [hj]; simpa using ew) fin
  · have hj : (k + (its.toArray.size : Int)).toNat = j := by
      rw [seqIndex_neg (by omega) h4] at h1
      rw [List.size_toArray, ← hl]
      exact Option.some.inj h1
    exact wpAny_getItem_list_neg pl.isList (by omega) (by rw [List.size_toArray] <;> omega) (by omega) (by rw [hj]; simpa using ew) fin
/-- any(..) of a list of whole numbers -/
def rAnyI (K : PySem.W.Frag) : List V → Hp → VK → Prop := fun vs H Q => ∃ (a : Addr) (ns : List Nat), vs = [V.ref a] ∧ SqL K H a (iv ns) ∧ Q (.bl (ns.any fun x => x != 0)) H
theorem any_rangeI : ∀ ns : List Nat, (List.range ns.length).any (fun i => ns.getD i 0 != 0) = ns.any fun x => x != 0
  | [] => rfl
  | b :: bs => by
    rw [List.length_cons, List.range_succ_eq_map, List.any_cons, List.any_map, List.any_cons, ← any_rangeI bs]
    all_goals rfl
theorem cr_anyI (hc : X.calm = true) : CallR X (.builtin "any") (rAnyI X.K) := by
  intro pins s σ H vs us Q I r h
  obtain ⟨a, ns, rfl, hs, q⟩ := h
  obtain ⟨its, rv, hl, _⟩ := I.list hs
  rw [Vals.ref1 r]
  have hb := rv.length
  refine call_any_walk (iter_any hl.isList fun s₂ e2 st hne => ?_)
  subst e2
  refine ⟨_, _, _, _, _, _, fun i => ns.getD i 0 != 0, rfl, Walks.list (A := X.A.in1) (I.ok.hd hc) _ a hne its.toArray, st, fun i v s Q E hv hq => ?_, fun h' tk hk => ?_⟩
  · have hv' : its[i]? = some v := by simpa using hv
    have hi := (List.getElem?_eq_some_iff.mp hv').1
    rw [iv_len] at hb
    have e1 : ns[i]? = some (ns.getD i 0) := by
      rw [List.getD_eq_getElem?_getD, List.getElem?_eq_getElem (by omega)]
      rfl
    obtain ⟨w, ew, rw'⟩ := rv.get (iv_at e1)
    rw [hv'] at ew
    cases ew
    obtain ⟨t, rfl⟩ := rw'
    refine PySem.P.truthy_int ?_
    have : (((ns.getD i 0 : Nat) : Int) != 0) = (ns.getD i 0 != 0) := by
      rw [Bool.eq_iff_iff, bne_iff_ne, bne_iff_ne]
      omega
    rw [this]
    exact hq
  · refine ⟨.bl _, H, I.kept fun b o eo => hk b o (fun hmem => ?_) (Heap.get?_push_of_some _ eo), ?_, q⟩
    · rcases List.mem_cons.mp hmem with e1 | hmem
      · exact absurd (e1 ▸ Heap.lt_size eo) (Nat.lt_irrefl _)
      · cases hmem
    · show Value.bool _ = Value.bool _
      rw [← any_rangeI, List.size_toArray, ← hb, iv_len]
end
section
variable {P : Program} {w : World} {K : PySem.W.Frag} {mg : Str → Option Value} {base : Heap}
def tTruth (K : PySem.W.Frag) (ta : TE) : TT := fun σ H Q => ta σ H fun x H' => ∃ k, TruV K x H' k ∧ Q k H'
/-- what's left in parts, as truth values -/
def leftI (things left : List Nat) : List Nat := things.filter fun x => left.getD x 0 != 0
theorem leftI_more {things left : List Nat} {i x : Nat} (h : things[i]? = some x) : leftI (things.take (i + 1)) left = leftI (things.take i) left ++ (if (left.getD x 0 != 0) = true then [x] else []) := by
  unfold leftI
  rw [take_more h, List.filter_append, List.filter_cons]
  rfl
/-- dearest(things, left), left telling how much -/
def spDearN (K : PySem.W.Frag) : Sp := fun vs H Q _ => ∃ (a b : Addr) (things left : List Nat) (x : Nat), vs = [.ref a, .ref b] ∧ SqL K H a (iv things) ∧ SqL K H b (iv left) ∧ (∀ y ∈ things, y < left.length) ∧ things.length ≤ 1000 ∧
  (leftI things left)[0]? = some x ∧ ∀ H', Same H H' → Q (.int (x : Int)) H'
theorem ok_dearN {f : Addr} {fd : FuncData} {k : Nat} (F : Fun K "dearest" "dearest" sDear f fd) : FnOk P w K mg base CX0 (k + 1) f fd ["things", "left"] (spDearN K) := by
  refine F.ok scDear (fun vs H Q E h => ?_) (fun cdv A outer s H vs Q E hr h => ?_)
  · obtain ⟨a, b, _, _, _, rfl, _⟩ := h
    rfl
  · obtain ⟨a, b, things, left, x, rfl, hA, hB, hlt, hlen, hx, q⟩ := h
    refine ⟨_, pss_one (ps_ret (pe_ix ix_list (pe_lc (own := [("thing", 2)]) (g := gName 2) (tt := tTruth K (tOp (rIxL K) (tVar 1) (tVar 2))) (by rfl) scDear.nd (pi_list (pv 0)) (blkOk_by (N := ["things", "left", "thing"]) (sc := defScope sDear) (by decide +kernel)) (fun _ _ _ _ _ => pg_name (i := 2) scDear.nd rfl (Or.inl rfl))
      (fun _ _ _ _ _ => pts_one (pt_truth (pe_ix (r := rIxL K) ix_list (pv 1) (pv 2) (fun _ _ => rfl)) (fun _ => rfl))) (fun _ _ _ _ _ => pv 2)) pe_int (fun _ _ => rfl))), ?_⟩
    refine ⟨.ref a, rfl, a, rfl, ⟨_, hA⟩, fun D hD => ?_⟩
    refine lc_list (K := K) (a := a) (xs := iv things) (fun i H' => Same H H' ∧ H' D = some (.lst (iv (leftI (things.take i) left)))) ⟨same_upd hD, upd_same⟩ (fun i H' _ h => h.1.seq hA) ?_ ?_
    · rintro i y H' hi ⟨sm, hD'⟩
      obtain ⟨z, hz, rfl⟩ := iv_get hi
      have hzl : z < left.length := hlt z (List.mem_of_getElem? hz)
      have hl : left[z]? = some (left.getD z 0) := by
        rw [List.getD_eq_getElem?_getD, List.getElem?_eq_getElem hzl]
        rfl
      refine ⟨rfl, ?_⟩
      refine ⟨_, rfl, _, rfl, b, iv left, (z : Int), _, rfl, rfl, sm.seq hB, at_of rfl (iv_at hl), _, rfl, ?_⟩
      have e := leftI_more (left := left) hz
      have e5 : (((left.getD z 0 : Nat) : Int) != 0) = (left.getD z 0 != 0) := by
        rw [Bool.eq_iff_iff, bne_iff_ne, bne_iff_ne]
        omega
      rw [e5]
      refine ite2 (fun c => ?_) (fun c => ?_)
      · rw [if_pos c] at e
        refine ⟨_, rfl, _, hD', ?_, ⟨same_put hD sm, ?_⟩⟩
        · rw [iv_len]
          refine small1000 (Nat.le_trans (List.length_filter_le ..) ?_)
          exact Nat.le_trans (List.length_take_le ..) (by have := (List.getElem?_eq_some_iff.mp hz).1; omega)
        · rw [upd_same, e]
          unfold iv
          rw [List.map_append]
          rfl
      · rw [if_neg c, List.append_nil] at e
        exact ⟨sm, by rw [e]; exact hD'⟩
    · rintro H' ⟨sm, hD'⟩
      rw [iv_len, List.take_length] at hD'
      exact ⟨D, _, 0, _, rfl, rfl, SqL.of hD', at_of rfl (iv_at hx), q _ sm⟩
end
end My
set_option Elab.async false
set_option maxRecDepth 100000
set_option maxHeartbeats 4000000
namespace My
open PySem PySem.Spec PyProof.Rows L2
open Rc57 (orderOf Wishes share shares eats)
abbrev sShares : Stmt := top 12
abbrev sParts : Stmt := top 13
abbrev sGone : Stmt := top 14
abbrev sLow : Stmt := top 15
abbrev nShares : List Str := ["wishes", "shares", "eaten", "whole", "parts"]
abbrev nParts : List Str := ["wishes", "left", "eaten", "eating", "thing", "eaters", "gone", "finer", "each", "person", "things", "parts", "row"]
theorem scShares : FnScope nShares ["wishes"] (defScope sShares) := ⟨rfl, rfl, rfl, by decide +kernel, rfl, by decide +kernel, by decide +kernel⟩
theorem scParts : FnScope nParts ["wishes"] (defScope sParts) := ⟨rfl, rfl, rfl, by decide +kernel, rfl, by decide +kernel, by decide +kernel⟩
theorem scGone : FnScope ["left", "eaters", "first", "thing", "count"] ["left", "eaters"] (defScope sGone) := ⟨rfl, rfl, rfl, by decide +kernel, rfl, by decide +kernel, by decide +kernel⟩
theorem scLow : FnScope ["parts", "whole", "divisor", "rest", "smaller"] ["parts", "whole"] (defScope sLow) := ⟨rfl, rfl, rfl, by decide +kernel, rfl, by decide +kernel, by decide +kernel⟩
theorem nat_at {l : List Nat} {i : Nat} (h : i < l.length) : l[i]? = some (l.getD i 0) := by
  rw [List.getD_eq_getElem?_getD, List.getElem?_eq_getElem h]
  rfl
theorem mul_line {i : Int} {n : Nat} (h : n ≤ 1000) : CMul i (n : Int) := .inr ⟨by omega, by omega⟩
section
variable {P : Program} {w : World} {K : PySem.W.Frag} {mg : Str → Option Value} {base : Heap}
/-- first_gone(left, eaters) -/
def spGone (K : PySem.W.Frag) : Sp := fun vs H Q _ => ∃ (a b : Addr) (L es : List Nat) (n : Nat), vs = [.ref a, .ref b] ∧ SqL K H a (iv L) ∧ SqL K H b (iv es) ∧ L.length = n ∧ es.length = n ∧ (∃ x ∈ es, 0 < x) ∧ (∀ x ∈ es, x ≤ 1000) ∧
  ∀ H' g, Same H H' → g < n → 0 < es.getD g 0 → (∀ x, x < n → L.getD g 0 * es.getD x 0 ≤ L.getD x 0 * es.getD g 0) → Q (.int (g : Int)) H'
theorem ok_gone {f : Addr} {fd : FuncData} {k : Nat} (F : Fun K "first_gone" "first_gone" sGone f fd) (mMax : mg "max" = none) (mEn : mg "enumerate" = none) : FnOk P w K mg base CX0 (k + 1) f fd ["left", "eaters"] (spGone K) := by
  refine F.ok scGone (fun vs H Q E h => ?_) (fun cdv A outer s H vs Q Ex hr h => ?_)
  · obtain ⟨a, b, _, _, _, rfl, _⟩ := h
    rfl
  · obtain ⟨a, b, L, es, n, rfl, hA, hB, hLn, hEn, ⟨x0, hx0, hx1⟩, hsm, q⟩ := h
    refine ⟨_, pss_cons (ps_set (i := 2) scGone.nd rfl (Or.inl rfl) (pe_bm PySem.F.plainAttrs_list PySem.F.slot_list_index PySem.F.type_list_index mt_index (pv 1) (pa_cons (pe_callB (cr_max rfl) (by rfl) mMax (by decide +kernel) (pa_cons (pv 1) pa_nil)) pa_nil)))
      (pss_cons (ps_for PassesOwn.never rfl (pi_enum (by rfl) mEn (pa_cons (pv 1) pa_nil)) (pg_tup rfl (pgs_cons (pg_name (i := 3) scGone.nd rfl (.inl rfl)) (pgs_cons (pg_name (i := 4) scGone.nd rfl (.inl rfl)) pgs_nil)))
        (pss_one (ps_if (pt_cmpR op_lt (pe_op op_mul (pe_ix ix_list (pv 0) (pv 3) (fun _ _ => rfl)) (pe_ix ix_list (pv 1) (pv 2) (fun _ _ => rfl))) (pe_op op_mul (pe_ix ix_list (pv 0) (pv 2) (fun _ _ => rfl)) (pv 4)) (nomark _))
          (pss_one (ps_set (i := 2) scGone.nd rfl (Or.inl rfl) (pv 3))) pss_nil)))
      (pss_one (ps_ret (pv 2)))), ?_⟩
    have hpos : 0 < es.length := List.length_pos_of_mem hx0
    refine ⟨_, rfl, .inl ⟨rfl, _, hB⟩, _, rfl, b, es.map (fun n : Nat => (n : Int)), rfl, by rw [← iv_ints]; exact hB, by rw [List.length_map]; exact hpos, fun m hm hmx => ?_⟩
    obtain ⟨m, hm', rfl⟩ := List.mem_map.mp hm
    have hmx' : ∀ y ∈ es, y ≤ m := fun y hy => by
      have := hmx _ (List.mem_map.mpr ⟨y, hy, rfl⟩)
      omega
    obtain ⟨j0, hj0⟩ := List.mem_iff_getElem?.mp hm'
    obtain ⟨j, _, hj, hjmin⟩ := least_of (P := fun j => es[j]? = some m) j0 hj0
    have hjl := (List.getElem?_eq_some_iff.mp hj).1
    refine ⟨b, iv es, _, j, _, rfl, rfl, hB, rfl, iv_flat _, iv_at hj, by rw [eqV_nat, beq_self_eq_true], fun i z hi hz => ?_, ?_⟩
    · obtain ⟨y, hy, rfl⟩ := iv_get hz
      rw [eqV_nat, beq_eq_false_iff_ne]
      exact fun e => hjmin i hi (e ▸ hy)
    have ejm : es.getD j 0 = m := by rw [List.getD_eq_getElem?_getD, hj]; rfl
    refine ⟨_, rfl, b, iv es, rfl, hB, for_it (walk_enum (K := K) (a := b) (xs := iv es)) (fun i σ H' => ∃ (x3 x4 : Option V) (g : Nat), σ = [some (.ref a), some (.ref b), some (.int (g : Int)), x3, x4] ∧ Same H H' ∧ g < n ∧ 0 < es.getD g 0 ∧
        ∀ x, x < i → L.getD g 0 * es.getD x 0 ≤ L.getD x 0 * es.getD g 0)
      ⟨none, none, j, rfl, Same.refl H, by omega, by rw [ejm]; exact Nat.lt_of_lt_of_le hx1 (hmx' _ hx0), fun x hx => absurd hx (Nat.not_lt_zero _)⟩ (fun i σ H' _ ⟨_, _, _, _, s5, _⟩ => s5.seq hB) ?_ ?_⟩
    · rintro i y σ H1 H2 hi ⟨x3, x4, g, rfl, s5, hgn, hgp, hgm⟩ ⟨T, x, z, rfl, nT, rfl, e1, e2⟩
      obtain ⟨t, ht, rfl⟩ := iv_get e2
      cases e1
      have hin : i < n := by
        rw [iv_len, hEn] at hi
        exact hi
      have et : es.getD i 0 = t := by rw [List.getD_eq_getElem?_getD, ht]; rfl
      have hgs : es.getD g 0 ≤ 1000 := hsm _ (getD_mem (by omega))
      have hts : t ≤ 1000 := hsm _ (List.mem_of_getElem? ht)
      have s6 := s5.trans (same_upd (o := .tup [V.int (i : Nat), V.int (t : Int)]) nT)
      refine ⟨T, _, rfl, .inl (.inl upd_same), rfl, _, _, rfl, _, _, rfl, rfl, ?_⟩
      refine ⟨_, rfl, _, rfl, a, iv L, (i : Int), _, rfl, rfl, s6.seq hA, at_of rfl (iv_at (nat_at (by omega))), _, rfl, _, rfl, b, iv es, (g : Int), _, rfl, rfl, s6.seq hB, at_of rfl (iv_at (nat_at (by omega))), _, _, rfl, rfl, mul_line hgs, ?_⟩
      refine ⟨_, rfl, _, rfl, a, iv L, (g : Int), _, rfl, rfl, s6.seq hA, at_of rfl (iv_at (nat_at (by omega))), _, rfl, _, _, rfl, rfl, mul_line hts, _, _, rfl, rfl, _, rfl, ?_⟩
      refine ite2 (fun c => ?_) (fun c => ?_)
      · have c2 : L.getD i 0 * es.getD g 0 < L.getD g 0 * t := by
          have := of_decide_eq_true c
          exact Int.ofNat_lt.mp (by rw [Int.natCast_mul, Int.natCast_mul]; exact this)
        rw [← et] at c2
        refine ⟨_, rfl, _, _, i, rfl, s6, hin, ?_, fun x hx => ?_⟩
        · rcases Nat.eq_zero_or_pos (es.getD i 0) with z | z
          · rw [z] at c2; omega
          · exact z
        · by_cases e : x = i
          · rw [e]; exact Nat.le_refl _
          · have h1 := hgm x (by omega)
            refine Nat.le_of_mul_le_mul_right ?_ hgp
            calc L.getD i 0 * es.getD x 0 * es.getD g 0 = L.getD i 0 * es.getD g 0 * es.getD x 0 := by ac_rfl
              _ ≤ L.getD g 0 * es.getD i 0 * es.getD x 0 := Nat.mul_le_mul_right _ (Nat.le_of_lt c2)
              _ = L.getD g 0 * es.getD x 0 * es.getD i 0 := by ac_rfl
              _ ≤ L.getD x 0 * es.getD g 0 * es.getD i 0 := Nat.mul_le_mul_right _ h1
              _ = L.getD x 0 * es.getD i 0 * es.getD g 0 := by ac_rfl
      · have c2 : L.getD g 0 * t ≤ L.getD i 0 * es.getD g 0 := by
          have : ¬ ((L.getD i 0 : Nat) : Int) * ((es.getD g 0 : Nat) : Int) < ((L.getD g 0 : Nat) : Int) * (t : Int) := fun z => c (decide_eq_true z)
          rw [← Int.natCast_mul, ← Int.natCast_mul] at this
          omega
        rw [← et] at c2
        refine ⟨_, _, g, rfl, s6, hgn, hgp, fun x hx => ?_⟩
        by_cases e : x = i
        · rw [e]; exact c2
        · exact hgm x (by omega)
    · rintro σ H' ⟨x3, x4, g, rfl, s5, hgn, hgp, hgm⟩
      rw [iv_len, hEn] at hgm
      exact ⟨_, rfl, q H' g s5 hgn hgp hgm⟩
/-- lowest_terms(parts, whole) -/
def spLow : Sp := fun vs H Q _ => ∃ (p v : Nat), vs = [.int (p : Int), .int (v : Int)] ∧ 0 < v ∧ v < 1073741824 ∧ ∀ H' r, Same H H' → H r = none → H' r = some (.lst (iv (share p v))) → Q (.ref r) H'
theorem ok_low {f : Addr} {fd : FuncData} {k : Nat} (F : Fun K "lowest_terms" "lowest_terms" sLow f fd) : FnOk P w K mg base CX0 (k + 1) f fd ["parts", "whole"] spLow := by
  refine F.ok scLow (fun vs H Q E h => ?_) (fun cdv A outer s H vs Q Ex hr h => ?_)
  · obtain ⟨p, v, rfl, _⟩ := h
    rfl
  · obtain ⟨p, v, rfl, hv, hv2, q⟩ := h
    refine ⟨_, pss_cons (ps_set (i := 2) scLow.nd rfl (Or.inl rfl) (pv 1))
      (pss_cons (ps_set (i := 3) scLow.nd rfl (Or.inl rfl) (pv 0))
      (pss_cons (ps_while PassesOwn.never (pt_cmpR op_gt (pv 3) pe_int (nomark _))
        (pss_cons (ps_set (i := 4) scLow.nd rfl (Or.inl rfl) (pe_op op_mod (pv 2) (pv 3)))
        (pss_cons (ps_set (i := 2) scLow.nd rfl (Or.inl rfl) (pv 3))
        (pss_one (ps_set (i := 3) scLow.nd rfl (Or.inl rfl) (pv 4))))))
      (pss_one (ps_ret (pe_lst (pa_cons (pe_op op_fdiv (pv 0) (pv 2)) (pa_cons (pe_op op_fdiv (pv 1) (pv 2)) pa_nil))))))), ?_⟩
    refine ⟨_, rfl, _, rfl, fun m σ H' => ∃ (x4 : Option V) (d r : Nat), m = r ∧ σ = [some (.int (p : Int)), some (.int (v : Int)), some (.int (d : Int)), some (.int (r : Int)), x4] ∧ H' = H ∧ Nat.gcd r d = Nat.gcd p v, ⟨p, none, v, p, rfl, rfl, rfl, rfl⟩, ?_⟩
    rintro m σ H' ⟨x4, d, r, rfl, rfl, rfl, hg⟩
    refine ⟨_, rfl, _, _, rfl, rfl, _, rfl, ite2 (fun c => ?_) (fun c => ?_)⟩
    · have c2 : 0 < m := by have := of_decide_eq_true c; omega
      refine ⟨fun σ H'' => ∃ (x4 : Option V), σ = [some (.int (p : Int)), some (.int (v : Int)), some (.int (m : Int)), some (.int ((d % m : Nat) : Int)), x4] ∧ H'' = H', fun σ' H'' ⟨y, e1, e2⟩ => ⟨d % m, Nat.mod_lt _ c2, y, m, d % m, rfl, e1, e2, by rw [← hg, Nat.gcd_rec m d]⟩, ?_⟩
      exact ⟨_, rfl, _, rfl, _, _, rfl, rfl, by omega, _, rfl, _, rfl, some (.int ((d % m : Nat) : Int)), rfl, rfl⟩
    · have c2 : m = 0 := by
        have : ¬ (0 : Int) < (m : Int) := fun z => c (decide_eq_true z)
        omega
      subst c2
      rw [Nat.gcd_zero_left] at hg
      have hd : 0 < d := by rw [hg]; exact Nat.gcd_pos_of_pos_right _ hv
      have hdv : d ≤ v := by rw [hg]; exact Nat.gcd_le_right _ hv
      have hcd : CDiv ((p : Nat) : Int) (d : Int) := ⟨by omega, by omega⟩
      have hcd2 : CDiv ((v : Nat) : Int) (d : Int) := ⟨by omega, by omega⟩
      refine ⟨_, rfl, _, rfl, _, _, rfl, rfl, hcd, _, rfl, _, rfl, _, _, rfl, rfl, hcd2, (show 2 ≤ sizeLine by decide), fun z nz => ?_⟩
      refine q _ z (same_upd nz) nz ?_
      rw [upd_same]
      subst hg
      rfl
/-- the scope of the comprehension over the rows -/
def rowScope : Scope := { kind := .function, names := [(".0", .local), ("row", .local), ("finer", .cell)], isGenerator := false, isCoroutine := false }
/-- rows as they lie, none of them there at first -/
structure RowsAt (H0 H : Hp) (p : Addr) (n : Nat) (rs : List Addr) (R : List (List Nat)) : Prop where
  at_ : H p = some (.lst (rs.map V.ref))
  len : rs.length = n
  nd : rs.Nodup
  out : p ∉ rs
  new : ∀ r ∈ rs, H0 r = none
  rows : ∀ i, i < n → ∃ r, rs[i]? = some r ∧ H r = some (.lst (iv (R.getD i [])))
theorem RowsAt.same {H0 H H' : Hp} {p : Addr} {n : Nat} {rs : List Addr} {R : List (List Nat)} (h : RowsAt H0 H p n rs R) (s : Same H H') : RowsAt H0 H' p n rs R :=
  ⟨s _ _ h.at_, h.len, h.nd, h.out, h.new, fun i hi => by
    obtain ⟨r, r1, r2⟩ := h.rows i hi
    exact ⟨r, r1, s _ _ r2⟩⟩
theorem count_int (x : Nat) : ∀ l : List Nat, (l.map fun n : Nat => (n : Int)).count (x : Int) = l.count x
  | [] => rfl
  | a :: l => by
    rw [List.map_cons, List.count_cons, List.count_cons, count_int x l]
    have : (((a : Nat) : Int) == (x : Int)) = (a == x) := by
      rw [Bool.eq_iff_iff, beq_iff_eq, beq_iff_eq]
      omega
    rw [this]
theorem mul_lineL {n : Nat} {j : Int} (h : n ≤ 1000) : CMul (n : Int) j := .inl ⟨by omega, by omega⟩
theorem map_more {n i : Nat} {c : Nat → Nat} (hi : i < n) : ((List.range n).take (i + 1)).map c = ((List.range n).take i).map c ++ [c i] := by
  rw [take_more (List.getElem?_range hi), List.map_append]
  rfl
theorem map_few {n i : Nat} {c : Nat → Nat} : (((List.range n).take i).map c).length ≤ n := by
  rw [List.length_map]
  refine Nat.le_trans (List.length_take_le' ..) ?_
  rw [List.length_range]
  exact Nat.le_refl _
theorem iv_snoc (l : List Nat) (x : Nat) : iv (l ++ [x]) = iv l ++ [V.int (x : Int)] := by
  unfold iv
  rw [List.map_append]
  rfl
theorem yes_go {σ : L2.St} {H : Hp} {A B : Hp → Prop} (h : A H) : tYes σ H (fun b H3 => if b = true then A H3 else B H3) := by
  unfold tYes
  exact iteT h
def rLen (K : PySem.W.Frag) : List V → Hp → VK → Prop := fun xs H Q => ∃ p ys, xs = [V.ref p] ∧ (SqL K H p ys ∨ SqT K H p ys) ∧ Q (V.int (ys.length : Nat)) H
/-- eaten_parts(wishes) -/
def spParts (K : PySem.W.Frag) : Sp := fun vs H Q _ => ∃ (a : Addr) (ws : Wishes) (n : Nat), vs = [.ref a] ∧ Lks K H a n (orderOf ws) ∧ RightW n ws ∧ 0 < n ∧ n ≤ 5 ∧
  ∀ H' p (rs : List Addr) (R : List (List Nat)) (V : Nat), Same H H' → H p = none → RowsAt H H' p n rs R → R.length = n → (∀ i, i < n → (R.getD i []).length = n) → 0 < V → (∀ i, i < n → (R.getD i []).sum = V) → V ≤ 5 ^ n → shares n ws = (R.flatMap fun r => r.flatMap fun a => share a V) → Q (.ref p) H'
theorem ok_parts {f fD fG : Addr} {fd fdD fdG : FuncData} {k : Nat} (F : Fun K "eaten_parts" "eaten_parts" sParts f fd) (mLen : mg "len" = none) (mAny : mg "any" = none) (mRg : mg "range" = none) (mEn : mg "enumerate" = none)
    (GD : FnOk P w K mg base CX0 k fD fdD ["things", "left"] (spDearN K)) (mD : mg "dearest" = some (.ref fD)) (kD : PySem.W.keepIn K (.ref fD) = true) (bD : Binds K fdD ["things", "left"] [])
    (GG : FnOk P w K mg base CX0 k fG fdG ["left", "eaters"] (spGone K)) (mG : mg "first_gone" = some (.ref fG)) (kG : PySem.W.keepIn K (.ref fG) = true) (bG : Binds K fdG ["left", "eaters"] []) :
    FnOk P w K mg base CX0 (k + 1) f fd ["wishes"] (spParts K) := by
  refine F.ok scParts (fun vs H Q E h => ?_) (fun cdv A outer s H vs Q Ex hr h => ?_)
  · obtain ⟨a, _, _, rfl, _⟩ := h
    rfl
  · obtain ⟨a, ws, n, rfl, hA, hW, hn0, hn5, q⟩ := h
    refine ⟨_, pss_cons (ps_set (i := 1) scParts.nd rfl (Or.inr rfl) (pe_op op_rep (pe_lst (pa_cons pe_int pa_nil)) (pe_callB call_len_seq (by rfl) mLen PySem.boot_len (pa_cons (pv 0) pa_nil))))
      (pss_cons (ps_setLc (i := 2) (own := [("things", 10)]) (g := gName 10) (te := tOp rRep (tLst (tCons (tC (V.int 0)) tNil)) (tCB (rLen K) (tCons (tVar 0) tNil))) rfl scParts.nd rfl rfl (sw_true rfl rfl (by decide) (by decide)) (pi_list (pv 0)) (blkOk_by (N := nParts) (sc := defScope sParts) (by decide +kernel)) (fun _ _ _ _ _ => pg_name (i := 10) scParts.nd rfl (Or.inl rfl))
          (fun _ _ _ _ _ => pts_nil) (fun _ _ _ _ _ => pe_op op_rep (pe_lst (pa_cons pe_int pa_nil)) (pe_callB call_len_seq (by rfl) mLen PySem.boot_len (pa_cons (pv 0) pa_nil))))
      (pss_cons (ps_while PassesOwn.never (pt_val (pe_callB (cr_anyI rfl) (by rfl) mAny (by decide +kernel) (pa_cons (pv 1) pa_nil)))
        (pss_cons (ps_set (i := 3) scParts.nd rfl (Or.inr rfl) (pe_lc (own := [("things", 10)]) (g := gName 10) (by rfl) scParts.nd (pi_list (pv 0)) (blkOk_by (N := nParts) (sc := defScope sParts) (by decide +kernel)) (fun _ _ _ _ _ => pg_name (i := 10) scParts.nd rfl (Or.inl rfl))
            (fun _ _ _ _ _ => pts_nil) (fun _ _ _ _ _ => pe_call GD hr (by rfl) mD kD bD .nil pass0 (pa_cons (pv 10) (pa_cons (pv 1) pa_nil)))))
        (pss_cons (ps_set (i := 5) scParts.nd rfl (Or.inr rfl) (pe_lc (own := [("thing", 4)]) (g := gName 4) (te := tBM K "list" (rCntI K) (tVar 3) (tCons (tVar 4) tNil)) (by rfl) scParts.nd (pi_range1 (by rfl) mRg (pa_cons (pe_callB call_len_seq (by rfl) mLen PySem.boot_len (pa_cons (pv 0) pa_nil)) pa_nil)) (blkOk_by (N := nParts) (sc := defScope sParts) (by decide +kernel)) (fun _ _ _ _ _ => pg_name (i := 4) scParts.nd rfl (Or.inl rfl))
            (fun _ _ _ _ _ => pts_nil) (fun _ _ _ _ _ => pe_bm (r := rCntI K) PySem.F.plainAttrs_list PySem.F.slot_list_count PySem.F.type_list_count (mt_lcount) (pv 3) (pa_cons (pv 4) pa_nil))))
        (pss_cons (ps_set (i := 6) scParts.nd rfl (Or.inl rfl) (pe_call GG hr (by rfl) mG kG bG .nil pass0 (pa_cons (pv 1) (pa_cons (pv 5) pa_nil))))
        (pss_cons (ps_set (i := 7) scParts.nd rfl (Or.inr rfl) (pe_ix ix_list (pv 5) (pv 6) (fun _ _ => rfl)))
        (pss_cons (ps_set (i := 8) scParts.nd rfl (Or.inr rfl) (pe_ix ix_list (pv 1) (pv 6) (fun _ _ => rfl)))
        (pss_cons (ps_set (i := 1) scParts.nd rfl (Or.inr rfl) (pe_lc (own := [("thing", 4)]) (g := gName 4) (by rfl) scParts.nd (pi_range1 (by rfl) mRg (pa_cons (pe_callB call_len_seq (by rfl) mLen PySem.boot_len (pa_cons (pv 0) pa_nil)) pa_nil)) (blkOk_by (N := nParts) (sc := defScope sParts) (by decide +kernel)) (fun _ _ _ _ _ => pg_name (i := 4) scParts.nd rfl (Or.inl rfl))
            (fun _ _ _ _ _ => pts_nil) (fun _ _ _ _ _ => pe_op op_sub (pe_op op_mul (pe_ix (r := rIxL K) ix_list (pv 1) (pv 4) (fun _ _ => rfl)) (pv 7)) (pe_op op_mul (pe_ix (r := rIxL K) ix_list (pv 5) (pv 4) (fun _ _ => rfl)) (pv 8)))))
        (pss_cons (ps_setLc (i := 2) (own := [("row", 12)]) (g := gName 12) (te := tLc (iList K (tVar 12)) (gName 11) tYes (tOp (rI CMul fun i j => .int (i * j)) (tVar 11) (tVar 7)) [11]) rfl scParts.nd rfl rfl (sw_true rfl rfl (by decide) (by decide)) (pi_list (pv 2)) (blkOk_by (N := nParts) (sc := defScope sParts) (by decide +kernel)) (fun _ _ _ _ _ => pg_name (i := 12) scParts.nd rfl (Or.inl rfl))
            (fun _ _ _ _ _ => pts_nil) (fun _ _ _ _ _ => pe_lc (own := [("parts", 11)]) (g := gName 11) (by rfl) scParts.nd (pi_list (pv 12)) (blkOk_by (N := nParts) (sc := rowScope) (by decide +kernel)) (fun _ _ _ _ _ => pg_name (i := 11) scParts.nd rfl (Or.inl rfl))
              (fun _ _ _ _ _ => pts_nil) (fun _ _ _ _ _ => pe_op op_mul (pv 11) (pv 7))))
        (pss_one (ps_for PassesOwn.never rfl (pi_enum (by rfl) mEn (pa_cons (pv 3) pa_nil)) (pg_tup rfl (pgs_cons (pg_name (i := 9) scParts.nd rfl (.inl rfl)) (pgs_cons (pg_name (i := 4) scParts.nd rfl (.inl rfl)) pgs_nil)))
          (pss_one (ps_augS (pe_ix ix_list (pv 2) (pv 9) (fun _ _ => rfl)) (pv 4) get_list (pv 8) ip_add set_list))))))))))))
      (pss_one (ps_ret (pv 2))))), ?_⟩
    obtain ⟨as, hAl, hAs, hAr⟩ := hA.ex
    have hasl : (as.map V.ref).length = n := by rw [List.length_map, hAl]
    -- left
    refine ⟨by decide, fun p1 n1 => ?_⟩
    have s1 := same_upd (o := .lst [V.int 1]) n1
    refine ⟨_, rfl, a, _, rfl, .inl (s1.seq hAs), p1, _, _, rfl, rfl, upd_same, by rw [hasl]; omega, by rw [hasl]; omega, ?_, fun l0 nl0 => ?_⟩
    · rw [hasl]
      show 1 * ((n : Int)).toNat ≤ sizeLine
      exact Nat.le_of_lt (small1000 (by omega))
    rw [hasl, Int.toNat_natCast, show V.int 1 = V.int ((1 : Nat) : Int) from rfl, rep_int]
    have s2 := s1.trans (same_upd (o := .lst (iv (List.replicate n 1))) nl0)
    -- eaten
    refine ⟨.ref a, rfl, a, rfl, ⟨_, s2.seq hAs⟩, fun D hD => ?_⟩
    have nD : H D = none := s2.free hD
    have sD := s2.trans (same_upd (o := .lst []) hD)
    refine lc_list (K := K) (a := a) (xs := as.map V.ref) (fun i H' => Same (upd (upd H p1 (.lst [V.int 1])) l0 (.lst (iv (List.replicate n 1)))) H' ∧ ∃ rs : List Addr, H' D = some (.lst (rs.map V.ref)) ∧ rs.length = i ∧ rs.Nodup ∧ D ∉ rs ∧ (∀ r ∈ rs, H r = none) ∧ ∀ j, j < i → ∃ r, rs[j]? = some r ∧ H' r = some (.lst (iv (List.replicate n 0))))
      ⟨same_upd hD, [], upd_same, rfl, List.nodup_nil, List.not_mem_nil, fun r hr => absurd hr List.not_mem_nil, fun j hj => absurd hj (Nat.not_lt_zero _)⟩ (fun i H' _ h => (s2.trans h.1).seq hAs) ?_ ?_
    · rintro i y H' hi ⟨sm, rs, hDl, rl, rnd, rD, rnew, rrows⟩
      have hil : i < n := by
        have := (List.getElem?_eq_some_iff.mp hi).1
        rw [hasl] at this
        exact this
      refine ⟨rfl, ?_⟩
      unfold tYes
      refine iteT ?_
      refine ⟨by decide, fun q1 nq1 => ?_⟩
      have sq1 := same_upd (o := .lst [V.int 0]) nq1
      refine ⟨_, rfl, a, _, rfl, .inl (((s2.trans sm).trans sq1).seq hAs), q1, _, _, rfl, rfl, upd_same, by rw [hasl]; omega, by rw [hasl]; omega, ?_, fun q2 nq2 => ?_⟩
      · rw [hasl]
        show 1 * ((n : Int)).toNat ≤ sizeLine
        exact Nat.le_of_lt (small1000 (by omega))
      rw [hasl, Int.toNat_natCast, show V.int 0 = V.int ((0 : Nat) : Int) from rfl, rep_int]
      have sq2 := sq1.trans (same_upd (o := .lst (iv (List.replicate n 0))) nq2)
      have hDl2 := sq2 _ _ hDl
      have nq2D : D ≠ q2 := ne_of_none (sq1 _ _ hDl) nq2
      have nq2H : H q2 = none := ((s2.trans sm).trans sq1).free nq2
      have nq2r : q2 ∉ rs := fun z => by
        obtain ⟨j, hj⟩ := List.mem_iff_getElem?.mp z
        obtain ⟨r, r1, r2⟩ := rrows j (by have := (List.getElem?_eq_some_iff.mp hj).1; omega)
        rw [hj] at r1
        cases r1
        have := sq1 _ _ r2
        rw [nq2] at this
        cases this
      refine ⟨_, hDl2, small1000 (by rw [List.length_map]; omega), same_put hD (sm.trans sq2), rs ++ [q2], ?_, by rw [List.length_append, rl]; rfl, ?_, ?_, fun r hr => ?_, fun j hj => ?_⟩
      · rw [upd_same, List.map_append]
        rfl
      · refine List.nodup_append.mpr ⟨rnd, List.nodup_cons.mpr ⟨List.not_mem_nil, List.nodup_nil⟩, fun x hx z hz e => nq2r ?_⟩
        rw [← List.mem_singleton.mp hz, ← e]
        exact hx
      · intro z
        rcases List.mem_append.mp z with z | z
        · exact rD z
        · exact nq2D (List.mem_singleton.mp z)
      · rcases List.mem_append.mp hr with z | z
        · exact rnew r z
        · rw [List.mem_singleton.mp z]; exact nq2H
      · by_cases e : j < i
        · obtain ⟨r, r1, r2⟩ := rrows j e
          have rne : r ≠ D := fun z => rD (z ▸ List.mem_of_getElem? r1)
          exact ⟨r, by rw [List.getElem?_append_left (by omega)]; exact r1, by rw [upd_ne rne]; exact sq2 _ _ r2⟩
        · have : j = i := by omega
          subst this
          refine ⟨q2, ?_, by rw [upd_ne nq2D.symm]; exact upd_same⟩
          rw [List.getElem?_append_right (by omega), rl, Nat.sub_self]
          rfl
    · rintro H0 ⟨sm, rs, hDl, rl, rnd, rD, rnew, rrows⟩
      rw [hasl] at rl rrows
      have hl0 : H0 l0 = some (.lst (iv (List.replicate n 1))) := sm _ _ upd_same
      refine ⟨fun m σ H' => ∃ (x3 x4 x5 x6 x7 x8 x9 : Option V) (l p : Addr) (rs : List Addr) (L : List Nat) (R : List (List Nat)) (V : Nat), m = nz n L ∧ σ = [some (.ref a), some (.ref l), some (.ref p), x3, x4, x5, x6, x7, x8, x9, none, none, none] ∧ Same H H' ∧
          H p = none ∧ H' l = some (.lst (iv L)) ∧ RowsAt H H' p n rs R ∧ EatInv n ws L R V,
        ⟨_, none, none, none, none, none, none, none, l0, D, rs, _, _, _, rfl, rfl, s2.trans sm, nD, hl0, ⟨hDl, rl, rnd, rD, rnew, fun i hi => by rw [getD_rep hi]; exact rrows i hi⟩, EatInv.start n ws⟩, ?_⟩
      clear hl0 rrows rnew rD rnd rl hDl sm s1 s2 sD nl0 n1 hD nD
      clear rs D l0 p1 H0
      rintro m σ H' ⟨x3, x4, x5, x6, x7, x8, x9, l, p, rs, L, R, u, rfl, rfl, s5, np, hl, hR, hI⟩
      refine ⟨_, rfl, l, L, rfl, SqL.of hl, _, rfl, ?_⟩
      refine ite2 (fun c1 => ?_) (fun c1 => ?_)
      · obtain ⟨y0, hy0, hy1⟩ := List.any_eq_true.mp c1
        obtain ⟨x0, hx0⟩ := List.mem_iff_getElem?.mp hy0
        have hx0n : x0 < n := by
          have := (List.getElem?_eq_some_iff.mp hx0).1
          rw [hI.llen] at this
          exact this
        have hLx0 : L.getD x0 0 ≠ 0 := by
          rw [List.getD_eq_getElem?_getD, hx0]
          exact bne_iff_ne.mp hy1
        obtain ⟨c, hc⟩ : ∃ c : Nat → Nat, ∀ i, i < n → eats ws L i = some (c i) ∧ c i < n ∧ L.getD (c i) 0 ≠ 0 := by
          refine ⟨fun i => (eats ws L i).getD 0, fun i hi => ?_⟩
          obtain ⟨z, z1, z2, z3⟩ := eats_some hW hx0n hLx0 hi
          show eats ws L i = some ((eats ws L i).getD 0) ∧ (eats ws L i).getD 0 < n ∧ L.getD ((eats ws L i).getD 0) 0 ≠ 0
          rw [z1]
          exact ⟨rfl, z2, z3⟩
        have hcI : ∀ i, i < n → (leftI (orderOf ws i) L)[0]? = some (c i) := fun i hi => by
          rw [← (hc i hi).1]
          unfold leftI
          rw [← find_filter]
          rfl
        refine ⟨fun σ H'' => ∃ (x3 x4 x5 x6 x7 x8 x9 : Option V) (l p : Addr) (rs : List Addr) (L' : List Nat) (R : List (List Nat)) (V : Nat), nz n L' < nz n L ∧ σ = [some (.ref a), some (.ref l), some (.ref p), x3, x4, x5, x6, x7, x8, x9, none, none, none] ∧ Same H H'' ∧
          H p = none ∧ H'' l = some (.lst (iv L')) ∧ RowsAt H H'' p n rs R ∧ EatInv n ws L' R V, fun σ' H'' ⟨y3, y4, y5, y6, y7, y8, y9, l', p', rs', L', R', V', z, e⟩ => ⟨nz n L', z, y3, y4, y5, y6, y7, y8, y9, l', p', rs', L', R', V', rfl, e⟩, ?_⟩
        -- what each eats of
        refine ⟨.ref a, rfl, a, rfl, ⟨_, s5.seq hAs⟩, fun D1 hD1 => ?_⟩
        refine lc_list (K := K) (a := a) (xs := as.map V.ref) (fun i H2 => Same H' H2 ∧ H2 D1 = some (.lst (iv (((List.range n).take i).map c)))) ⟨same_upd hD1, upd_same⟩ (fun i H2 _ h => (s5.trans h.1).seq hAs) ?_ ?_
        · rintro i y H2 hi ⟨sm, hDl⟩
          have hin : i < n := by
            have := (List.getElem?_eq_some_iff.mp hi).1
            rw [hasl] at this
            exact this
          obtain ⟨cc, c2, c3⟩ := hAr i hin
          rw [List.getElem?_map, c2] at hi
          cases hi
          have EW := hW.2 i hin
          refine ⟨rfl, ?_⟩
          unfold tYes
          refine iteT ?_
          refine ⟨_, rfl, _, rfl, cc, l, orderOf ws i, L, c i, rfl, (s5.trans sm).seq c3, SqL.of (sm _ _ hl), fun y hy => by rw [hI.llen]; exact EW.lt y hy, by rw [EW.len]; omega, hcI i hin, fun H3 s6 => ?_⟩
          refine ⟨_, s6 _ _ hDl, small1000 (by rw [iv_len]; exact Nat.le_trans map_few (by omega)), same_put hD1 (sm.trans s6), ?_⟩
          rw [upd_same, map_more hin, iv_snoc]
        · rintro H1 ⟨sm1, hD1l⟩
          rw [hasl, List.take_of_length_le (by rw [List.length_range]; exact Nat.le_refl _)] at hD1l
          -- how many eat of each
          obtain ⟨e, he⟩ : ∃ e : Nat → Nat, ∀ x, e x = ((List.range n).map c).count x := ⟨_, fun _ => rfl⟩
          have he5 : ∀ x, e x ≤ 1000 := fun x => by
            have := List.count_le_length (a := x) (l := (List.range n).map c)
            rw [List.length_map, List.length_range, ← he] at this
            omega
          have s6 := s5.trans sm1
          refine ⟨_, rfl, a, _, rfl, .inl (s6.seq hAs), (((as.map V.ref).length : Nat) : Int), rfl, by rw [hasl]; omega, by rw [hasl]; omega, fun D2 hD2 => ?_⟩
          rw [hasl, Int.toNat_natCast]
          have nD12 : D1 ≠ D2 := ne_of_none hD1l hD2
          refine lc_range (lo := 0) (n := n) (fun i H2 => Same H1 H2 ∧ H2 D2 = some (.lst (iv (((List.range n).take i).map e)))) ⟨same_upd hD2, upd_same⟩ ?_ ?_
          · rintro i H2 hin ⟨sm, hDl⟩
            refine ⟨rfl, ?_⟩
            unfold tYes
            refine iteT ?_
            refine ⟨_, rfl, .inl ⟨rfl, _, SqL.of (sm _ _ hD1l)⟩, _, rfl, D1, ((List.range n).map c).map (fun n : Nat => (n : Int)), _, rfl, rfl, SqL.of (by rw [sm _ _ hD1l, iv_ints]), ?_⟩
            rw [Int.zero_add, count_int, ← he]
            refine ⟨_, hDl, small1000 (by rw [iv_len]; exact Nat.le_trans map_few (by omega)), same_put hD2 sm, ?_⟩
            rw [upd_same, map_more hin, iv_snoc]
          · rintro H2 ⟨sm2, hD2l⟩
            rw [List.take_of_length_le (by rw [List.length_range]; exact Nat.le_refl _)] at hD2l
            have s7 := s6.trans sm2
            have hl2 := sm2 _ _ (sm1 _ _ hl)
            have heL : ∀ x, x < n → ((List.range n).map e).getD x 0 = e x := fun x hx => getD_map_range hx
            have elen : ((List.range n).map e).length = n := by rw [List.length_map, List.length_range]
            have hc0 := hc x0 hx0n
            refine ⟨_, rfl, _, rfl, l, D2, L, (List.range n).map e, n, rfl, SqL.of hl2, SqL.of hD2l, hI.llen, elen, ?_, ?_, fun H3 g s8 hgn hg hmin => ?_⟩
            · refine ⟨e (c x0), List.mem_map.mpr ⟨c x0, List.mem_range.mpr hc0.2.1, rfl⟩, ?_⟩
              rw [he]
              exact List.count_pos_iff.mpr (List.mem_map.mpr ⟨x0, List.mem_range.mpr hx0n, rfl⟩)
            · intro x hx
              obtain ⟨y, _, rfl⟩ := List.mem_map.mp hx
              exact he5 y
            · rw [heL g hgn] at hg
              have hmin' : ∀ x, x < n → L.getD g 0 * e x ≤ L.getD x 0 * e g := fun x hx => by
                have := hmin x hx
                rw [heL x hx, heL g hgn] at this
                exact this
              have s9 := s7.trans s8
              have hl3 := s8 _ _ hl2
              have hD23 := s8 _ _ hD2l
              have hD13 := s8 _ _ (sm2 _ _ hD1l)
              have eg : (iv ((List.range n).map e))[g]? = some (V.int ((e g : Nat) : Int)) := iv_at (by rw [List.getElem?_map, List.getElem?_range hgn]; rfl)
              refine ⟨_, rfl, _, rfl, D2, _, (g : Int), _, rfl, rfl, SqL.of hD23, at_of rfl eg, ?_⟩
              refine ⟨_, rfl, _, rfl, l, _, (g : Int), _, rfl, rfl, SqL.of hl3, at_of rfl (iv_at (nat_at (by rw [hI.llen]; exact hgn))), ?_⟩
              -- left
              refine ⟨_, rfl, a, _, rfl, .inl (s9.seq hAs), (((as.map V.ref).length : Nat) : Int), rfl, by rw [hasl]; omega, by rw [hasl]; omega, fun D3 hD3 => ?_⟩
              rw [hasl, Int.toNat_natCast]
              refine lc_range (lo := 0) (n := n) (fun i H4 => Same H3 H4 ∧ H4 D3 = some (.lst (iv (((List.range n).take i).map fun x => L.getD x 0 * e g - e x * L.getD g 0)))) ⟨same_upd hD3, upd_same⟩ ?_ ?_
              · rintro i H4 hin ⟨sm, hDl⟩
                refine ⟨rfl, ?_⟩
                unfold tYes
                refine iteT ?_
                have ei : (iv ((List.range n).map e))[i]? = some (V.int ((e i : Nat) : Int)) := iv_at (by rw [List.getElem?_map, List.getElem?_range hin]; rfl)
                refine ⟨_, rfl, _, rfl, l, iv L, (i : Int), _, rfl, by rw [Int.zero_add], SqL.of (sm _ _ hl3), at_of rfl (iv_at (nat_at (by rw [hI.llen]; exact hin))), _, rfl, _, _, rfl, rfl, mul_line (he5 g), ?_⟩
                refine ⟨_, rfl, _, rfl, D2, _, (i : Int), _, rfl, by rw [Int.zero_add], SqL.of (sm _ _ hD23), at_of rfl ei, _, rfl, _, _, rfl, rfl, mul_lineL (he5 i), _, _, rfl, rfl, ?_⟩
                have hle : e i * L.getD g 0 ≤ L.getD i 0 * e g := by
                  have := hmin' i hin
                  rw [Nat.mul_comm (e i)]
                  exact this
                have ev : V.int (((L.getD i 0 : Nat) : Int) * ((e g : Nat) : Int) - ((e i : Nat) : Int) * ((L.getD g 0 : Nat) : Int)) = V.int ((L.getD i 0 * e g - e i * L.getD g 0 : Nat) : Int) := by
                  rw [Int.natCast_sub hle, Int.natCast_mul, Int.natCast_mul]
                refine ⟨_, hDl, small1000 (by rw [iv_len]; exact Nat.le_trans map_few (by omega)), same_put hD3 sm, ?_⟩
                rw [upd_same, map_more hin, iv_snoc, ← ev]
              · rintro H4 ⟨sm4, hD3l⟩
                rw [List.take_of_length_le (by rw [List.length_range]; exact Nat.le_refl _)] at hD3l
                have s10 := s9.trans sm4
                have hR4 := hR.same (sm1.trans (sm2.trans (s8.trans sm4)))
                have hD14 := sm4 _ _ hD13
                have hRlt : ∀ i, i < n → (R.getD i []).length = n := hI.rows
                -- finer
                refine ⟨.ref p, rfl, p, rfl, ⟨_, SqL.of hR4.at_⟩, fun D4 hD4 => ?_⟩
                refine lc_list (K := K) (a := p) (xs := rs.map V.ref) (fun i H5 => Same H4 H5 ∧ ∃ qs : List Addr, H5 D4 = some (.lst (qs.map V.ref)) ∧ qs.length = i ∧ qs.Nodup ∧ D4 ∉ qs ∧ (∀ r ∈ qs, H4 r = none) ∧ ∀ j, j < i → ∃ r, qs[j]? = some r ∧ H5 r = some (.lst (iv ((R.getD j []).map fun x => x * e g))))
                  ⟨same_upd hD4, [], upd_same, rfl, List.nodup_nil, List.not_mem_nil, fun r hr => absurd hr List.not_mem_nil, fun j hj => absurd hj (Nat.not_lt_zero _)⟩ (fun i H5 _ h => h.1.seq (SqL.of hR4.at_)) ?_ ?_
                · rintro i y H5 hi ⟨sm, qs, hDl, rl, rnd, rD, rnew, rrows⟩
                  have hin : i < n := by
                    have := (List.getElem?_eq_some_iff.mp hi).1
                    rw [List.length_map, hR4.len] at this
                    exact this
                  obtain ⟨r, r1, r2⟩ := hR4.rows i hin
                  rw [List.getElem?_map, r1] at hi
                  cases hi
                  refine ⟨rfl, yes_go ?_⟩
                  have hr5 := sm _ _ r2
                  refine ⟨_, rfl, r, rfl, ⟨_, SqL.of hr5⟩, fun q2 nq2 => ?_⟩
                  refine lc_list (K := K) (a := r) (xs := iv (R.getD i [])) (fun j H6 => Same H5 H6 ∧ H6 q2 = some (.lst (iv (((R.getD i []).take j).map fun x => x * e g)))) ⟨same_upd nq2, upd_same⟩ (fun j H6 _ h => h.1.seq (SqL.of hr5)) ?_ ?_
                  · rintro j y H6 hj ⟨sm6, hq6⟩
                    obtain ⟨z, hz, rfl⟩ := iv_get hj
                    have hjn : j < n := by
                      have := (List.getElem?_eq_some_iff.mp hz).1
                      rw [hRlt i hin] at this
                      exact this
                    refine ⟨rfl, yes_go ?_⟩
                    refine ⟨_, rfl, _, rfl, _, _, rfl, rfl, mul_line (he5 g), _, hq6, ?_, same_put nq2 sm6, ?_⟩
                    · rw [iv_len, List.length_map]
                      refine small1000 (Nat.le_trans (List.length_take_le' ..) ?_)
                      rw [hRlt i hin]
                      omega
                    · rw [upd_same, take_more hz, List.map_append]
                      have ev : V.int ((z : Int) * ((e g : Nat) : Int)) = V.int ((z * e g : Nat) : Int) := by rw [Int.natCast_mul]
                      show some (HO.lst (iv _ ++ [V.int ((z : Int) * ((e g : Nat) : Int))])) = _
                      rw [ev, ← iv_snoc]
                      rfl
                  · rintro H6 ⟨sm6, hq6⟩
                    rw [iv_len, List.take_length] at hq6
                    have hDl6 := sm6 _ _ hDl
                    have nq2D : D4 ≠ q2 := ne_of_none hDl nq2
                    have nq2H : H4 q2 = none := sm.free nq2
                    have nq2r : q2 ∉ qs := fun z => by
                      obtain ⟨j, hj⟩ := List.mem_iff_getElem?.mp z
                      obtain ⟨r, r1, r2⟩ := rrows j (by have := (List.getElem?_eq_some_iff.mp hj).1; omega)
                      rw [hj] at r1
                      cases r1
                      rw [nq2] at r2
                      cases r2
                    refine ⟨_, hDl6, small1000 (by rw [List.length_map]; omega), same_put hD4 (sm.trans sm6), qs ++ [q2], ?_, by rw [List.length_append, rl]; rfl, ?_, ?_, fun r hr => ?_, fun j hj => ?_⟩
                    · rw [upd_same, List.map_append]
                      rfl
                    · refine List.nodup_append.mpr ⟨rnd, List.nodup_cons.mpr ⟨List.not_mem_nil, List.nodup_nil⟩, fun x hx z hz e => nq2r ?_⟩
                      rw [← List.mem_singleton.mp hz, ← e]
                      exact hx
                    · intro z
                      rcases List.mem_append.mp z with z | z
                      · exact rD z
                      · exact nq2D (List.mem_singleton.mp z)
                    · rcases List.mem_append.mp hr with z | z
                      · exact rnew r z
                      · rw [List.mem_singleton.mp z]; exact nq2H
                    · by_cases e : j < i
                      · obtain ⟨r, r1, r2⟩ := rrows j e
                        have rne : r ≠ D4 := fun z => rD (z ▸ List.mem_of_getElem? r1)
                        exact ⟨r, by rw [List.getElem?_append_left (by omega)]; exact r1, by rw [upd_ne rne]; exact sm6 _ _ r2⟩
                      · have : j = i := by omega
                        subst this
                        refine ⟨q2, ?_, by rw [upd_ne nq2D.symm]; exact hq6⟩
                        rw [List.getElem?_append_right (by omega), rl, Nat.sub_self]
                        rfl
                · rintro H5 ⟨sm5, qs, hDl, rl, rnd, rD, rnew, rrows⟩
                  rw [List.length_map, hR4.len] at rl rrows
                  have hD15 := sm5 _ _ hD14
                  have hD35 := sm5 _ _ hD3l
                  have s11 := s10.trans sm5
                  have n4H : H D4 = none := s10.free hD4
                  have qnew : ∀ r ∈ qs, H r = none := fun r hr => s10.free (rnew r hr)
                  have hmapl : ∀ i, i < n → ((R.getD i []).map fun x => x * e g).length = n := fun i hi => by rw [List.length_map, hI.rows i hi]
                  -- what each eats
                  refine ⟨_, rfl, D1, _, rfl, SqL.of hD15, for_it (walk_enum (K := K) (a := D1) (xs := iv ((List.range n).map c))) (fun i σ H6 => ∃ (y4 y9 : Option V) (fe : V), σ = [some (.ref a), some (.ref D3), some (.ref D4), some (.ref D1), y4, some (.ref D2), some (.int (g : Int)), some (.int ((e g : Nat) : Int)), some (.int ((L.getD g 0 : Nat) : Int)), y9, none, none, none] ∧
                      Same H H6 ∧ H6 D1 = some (.lst (iv ((List.range n).map c))) ∧ H6 D3 = some (.lst (iv ((List.range n).map fun x => L.getD x 0 * e g - e x * L.getD g 0))) ∧ H6 D4 = some (.lst (qs.map V.ref)) ∧
                      ∀ j, j < n → ∃ r, qs[j]? = some r ∧ H6 r = some (.lst (iv (if j < i then ((R.getD j []).map fun x => x * e g).set (c j) (((R.getD j []).map fun x => x * e g).getD (c j) 0 + L.getD g 0) else (R.getD j []).map fun x => x * e g))))
                    ⟨_, _, .non, rfl, s11, hD15, hD35, hDl, fun j hj => ?_⟩ (fun i σ H6 _ ⟨_, _, _, _, _, z, _⟩ => SqL.of z) ?_ ?_⟩
                  · obtain ⟨r, r1, r2⟩ := rrows j hj
                    exact ⟨r, r1, by rw [if_neg (Nat.not_lt_zero _)]; exact r2⟩
                  · rintro i y σ H6 H7 hi ⟨y4, y9, fe, rfl, s12, z1, z3, z4, zr⟩ ⟨T0, x, z, rfl, nT, rfl, e1, e2⟩
                    have hin : i < n := by
                      rw [iv_len, List.length_map, List.length_range] at hi
                      exact hi
                    have e3 : (iv ((List.range n).map c))[i]? = some z := e2
                    rw [iv_at (x := c i) (by rw [List.getElem?_map, List.getElem?_range hin]; rfl)] at e3
                    cases e3
                    cases e1
                    have sT := same_upd (o := .tup [V.int (i : Nat), V.int ((c i : Nat) : Int)]) nT
                    refine ⟨T0, _, rfl, .inl (.inl upd_same), rfl, _, _, rfl, _, _, rfl, rfl, ?_⟩
                    obtain ⟨r, r1, r2⟩ := zr i hin
                    rw [if_neg (Nat.lt_irrefl _)] at r2
                    have hci := (hc i hin).2.1
                    have hrq := List.mem_of_getElem? r1
                    have hr1 : r ≠ D1 := fun z => by
                      have := rnew r hrq
                      rw [z, hD14] at this
                      cases this
                    have hr3 : r ≠ D3 := fun z => by
                      have := rnew r hrq
                      rw [z, hD3l] at this
                      cases this
                    have hr4 : r ≠ D4 := fun z => rD (z ▸ hrq)
                    have r2T := sT _ _ r2
                    refine ⟨_, rfl, _, rfl, D4, _, (i : Int), _, rfl, rfl, SqL.of (sT _ _ z4), at_of rfl (by rw [List.getElem?_map, r1]; rfl), _, rfl, r, _, ((c i : Nat) : Int), _, rfl, rfl, SqL.of r2T, at_of rfl (iv_at (nat_at (by rw [hmapl i hin]; exact hci))), _, rfl, _, _, rfl, rfl,
                      r, _, _, c i, rfl, rfl, r2T, ixN_nat (by rw [iv_len, hmapl i hin]; exact hci), ?_⟩
                    refine ⟨_, _, fe, rfl, same_put (qnew r hrq) (s12.trans sT), by rw [upd_ne hr1.symm]; exact sT _ _ z1, by rw [upd_ne hr3.symm]; exact sT _ _ z3, by rw [upd_ne hr4.symm]; exact sT _ _ z4, fun j hj => ?_⟩
                    by_cases ej : j = i
                    · subst ej
                      refine ⟨r, r1, ?_⟩
                      rw [if_pos (Nat.lt_succ_self _), upd_same]
                      have ev : V.int (((((R.getD j []).map fun x => x * e g).getD (c j) 0 : Nat) : Int) + ((L.getD g 0 : Nat) : Int)) = V.int ((((R.getD j []).map fun x => x * e g).getD (c j) 0 + L.getD g 0 : Nat) : Int) := by rw [Int.natCast_add]
                      rw [← iv_set, ← ev]
                    · obtain ⟨r', r1', r2'⟩ := zr j hj
                      have hne : r' ≠ r := fun z => by
                        rw [z] at r1'
                        have := (List.getElem?_inj (by rw [rl]; exact hj) rnd).mp (r1'.trans r1.symm)
                        exact ej this
                      refine ⟨r', r1', ?_⟩
                      rw [upd_ne hne, sT _ _ r2']
                      by_cases d : j < i
                      · rw [if_pos d, if_pos (by omega)]
                      · rw [if_neg d, if_neg (by omega)]
                  · rintro σ H6 ⟨y4, y9, fe, rfl, s12, z1, z3, z4, zr⟩
                    rw [iv_len, List.length_map, List.length_range] at zr
                    obtain ⟨t1, t2⟩ := hI.turn hW hn5 hc he hg hmin' (L' := (List.range n).map fun x => L.getD x 0 * e g - e x * L.getD g 0) rfl (R' := (List.range n).map fun i => ((R.getD i []).map fun x => x * e g).set (c i) (((R.getD i []).map fun x => x * e g).getD (c i) 0 + L.getD g 0)) (by rw [List.length_map, List.length_range]) (fun i hi => getD_map_rg hi)
                    refine ⟨_, _, _, _, _, _, _, D3, D4, qs, _, _, _, t2, rfl, s12, n4H, z3, ⟨z4, rl, rnd, rD, qnew, fun i hi => ?_⟩, t1⟩
                    obtain ⟨r, r1, r2⟩ := zr i hi
                    rw [if_pos hi] at r2
                    refine ⟨r, r1, ?_⟩
                    rw [getD_map_rg hi]
                    exact r2
      · have hz : ∀ y ∈ L, y = 0 := fun y hy => by
          by_cases e : y = 0
          · exact e
          · exact absurd (List.any_eq_true.mpr ⟨y, hy, bne_iff_ne.mpr e⟩ : (L.any fun x => x != 0) = true) c1
        obtain ⟨d1, d2, d3⟩ := hI.done hn0 hz
        exact ⟨_, rfl, q H' p rs R u s5 np hR hI.rlen hI.rows hI.vpos d1 d2 d3⟩
theorem sum_int : ∀ l : List Nat, (l.map fun n : Nat => (n : Int)).sum = ((l.sum : Nat) : Int)
  | [] => rfl
  | a :: l => by
    rw [List.map_cons, List.sum_cons, List.sum_cons, sum_int l, Int.natCast_add]
theorem flat_few {α β : Type} {f : α → List β} {m : Nat} : ∀ l : List α, (∀ x ∈ l, (f x).length ≤ m) → (l.flatMap f).length ≤ m * l.length
  | [], _ => Nat.zero_le _
  | a :: l, h => by
    rw [List.flatMap_cons, List.length_append, List.length_cons, Nat.mul_succ]
    have h1 := h a (List.mem_cons_self ..)
    have h2 := flat_few l fun x hx => h x (List.mem_cons_of_mem _ hx)
    omega
theorem RowsAt.put {H0 H : Hp} {p q : Addr} {n : Nat} {rs : List Addr} {R : List (List Nat)} {o o' : HO} (h : RowsAt H0 H p n rs R) (hq : H0 q = some o) (hp : H0 p = none) : RowsAt H0 (upd H q o') p n rs R := by
  have ne : ∀ r, H0 r = none → r ≠ q := fun r hr z => by rw [z, hq] at hr; cases hr
  refine ⟨by rw [upd_ne (ne p hp)]; exact h.at_, h.len, h.nd, h.out, h.new, fun i hi => ?_⟩
  obtain ⟨r, r1, r2⟩ := h.rows i hi
  exact ⟨r, r1, by rw [upd_ne (ne r (h.new r (List.mem_of_getElem? r1)))]; exact r2⟩
/-- eaten_shares(wishes) -/
def spShares (K : PySem.W.Frag) : Sp := fun vs H Q _ => ∃ (a : Addr) (ws : Wishes) (n : Nat), vs = [.ref a] ∧ Lks K H a n (orderOf ws) ∧ RightW n ws ∧ 0 < n ∧ n ≤ 5 ∧
  ∀ H' p, Same H H' → H p = none → H' p = some (.lst (iv (shares n ws))) → (shares n ws).length ≤ 50 → Q (.ref p) H'
theorem ok_shares {f fP fL : Addr} {fd fdP fdL : FuncData} {k kP kL : Nat} (F : Fun K "eaten_shares" "eaten_shares" sShares f fd) (mSum : mg "sum" = none)
    (GP : FnOk P w K mg base CX0 kP fP fdP ["wishes"] (spParts K)) (mP : mg "eaten_parts" = some (.ref fP)) (pP : PySem.W.keepIn K (.ref fP) = true) (bP : Binds K fdP ["wishes"] []) (lP : kP ≤ k)
    (GL : FnOk P w K mg base CX0 kL fL fdL ["parts", "whole"] spLow) (mL : mg "lowest_terms" = some (.ref fL)) (pL : PySem.W.keepIn K (.ref fL) = true) (bL : Binds K fdL ["parts", "whole"] []) (lL : kL ≤ k) :
    FnOk P w K mg base CX0 (k + 1) f fd ["wishes"] (spShares K) := by
  refine F.ok scShares (fun vs H Q E h => ?_) (fun cdv A outer s H vs Q Ex hr h => ?_)
  · obtain ⟨a, _, _, rfl, _⟩ := h
    rfl
  · obtain ⟨a, ws, n, rfl, hA, hW, hn0, hn5, q⟩ := h
    refine ⟨_, pss_cons (ps_set (i := 1) scShares.nd rfl (Or.inl rfl) (pe_lst pa_nil))
      (pss_cons (ps_for PassesOwn.never rfl (pi_list (pe_call GP (hr.mono lP) (by rfl) mP pP bP .nil pass0 (pa_cons (pv 0) pa_nil))) (pg_name (i := 2) scShares.nd rfl (Or.inl rfl))
        (pss_cons (ps_set (i := 3) scShares.nd rfl (Or.inl rfl) (pe_callB (cr_sum rfl) (by rfl) mSum (by decide +kernel) (pa_cons (pv 2) pa_nil)))
        (pss_one (ps_for PassesOwn.never rfl (pi_list (pv 2)) (pg_name (i := 4) scShares.nd rfl (Or.inl rfl))
          (pss_one (ps_expr (pe_bm PySem.F.plainAttrs_list PySem.F.slot_list_extend PySem.F.type_list_extend mt_extend (pv 1) (pa_cons (pe_call GL (hr.mono lL) (by rfl) mL pL bL .nil pass0 (pa_cons (pv 4) (pa_cons (pv 3) pa_nil))) pa_nil))))))))
      (pss_one (ps_ret (pv 1)))), ?_⟩
    refine ⟨Nat.zero_le _, fun sh nsh => ?_⟩
    have s1 := same_upd (o := .lst []) nsh
    refine ⟨_, rfl, a, ws, n, rfl, hA.same s1, hW, hn0, hn5, fun H2 p rs R u s2 np hR hRl hRr hu hsum husm hsh => ?_⟩
    have hsh2 : H2 sh = some (.lst []) := s2 _ _ upd_same
    have hRat : ∀ i, i < n → R[i]? = some (R.getD i []) := fun i hi => by
      rw [List.getD_eq_getElem?_getD, List.getElem?_eq_getElem (by omega)]
      rfl
    have hu2 : u < 1073741824 := by
      have : (5 : Nat) ^ n ≤ 5 ^ 5 := Nat.pow_le_pow_right (by decide) hn5
      have e : (5 : Nat) ^ 5 = 3125 := by decide
      omega
    have few2 : ∀ l : List Nat, (l.flatMap fun a => share a u).length ≤ 2 * l.length := fun l => flat_few l fun x _ => Nat.le_refl 2
    have few10 : ∀ i, i ≤ n → ((R.take i).flatMap fun r => r.flatMap fun a => share a u).length ≤ 50 := fun i hi => by
      have h1 := flat_few (f := fun r : List Nat => r.flatMap fun a => share a u) (m := 10) (R.take i) fun r hr => by
        obtain ⟨j, hj⟩ := List.mem_iff_getElem?.mp (List.mem_of_mem_take hr)
        have hjl := (List.getElem?_eq_some_iff.mp hj).1
        have e1 := hRat j (by omega)
        rw [hj] at e1
        have := hRr j (by omega)
        rw [← Option.some.inj e1] at this
        have := few2 r
        omega
      have h2 : (R.take i).length ≤ 5 := by rw [List.length_take]; omega
      omega
    refine ⟨p, rfl, ⟨_, SqL.of hR.at_⟩, for_list (K := K) (a := p) (xs := rs.map V.ref) (fun i σ H' => ∃ (x2 x3 x4 : Option V), σ = [some (.ref a), some (.ref sh), x2, x3, x4] ∧ Same H H' ∧ RowsAt (upd H sh (.lst [])) H' p n rs R ∧
        H' sh = some (.lst (iv ((R.take i).flatMap fun r => r.flatMap fun a => share a u)))) ⟨none, none, none, rfl, s1.trans s2, hR, hsh2⟩ (fun i σ H' _ ⟨_, _, _, _, _, z, _⟩ => SqL.of z.at_) ?_ ?_⟩
    · rintro i y σ H' hi ⟨x2, x3, x4, rfl, s5, hR5, hs5⟩
      have hin : i < n := by
        have := (List.getElem?_eq_some_iff.mp hi).1
        rw [List.length_map, hR.len] at this
        exact this
      obtain ⟨r, r1, r2⟩ := hR5.rows i hin
      rw [List.getElem?_map, r1] at hi
      cases hi
      have hrsh : r ≠ sh := fun z => by
        have := hR5.new r (List.mem_of_getElem? r1)
        rw [z, upd_same] at this
        cases this
      refine ⟨_, rfl, r, (R.getD i []).map (fun n : Nat => (n : Int)), rfl, SqL.of (by rw [r2, iv_ints]), ?_⟩
      rw [sum_int, hsum i hin]
      have f1 := few10 i (by omega)
      refine ⟨_, rfl, r, rfl, ⟨_, SqL.of r2⟩, for_list (K := K) (a := r) (xs := iv (R.getD i [])) (fun j σ H'' => ∃ (x4 : Option V), σ = [some (.ref a), some (.ref sh), some (.ref r), some (.int ((u : Nat) : Int)), x4] ∧ Same H H'' ∧ RowsAt (upd H sh (.lst [])) H'' p n rs R ∧ H'' r = some (.lst (iv (R.getD i []))) ∧
          H'' sh = some (.lst (iv (((R.take i).flatMap fun r => r.flatMap fun a => share a u) ++ (((R.getD i []).take j).flatMap fun a => share a u)))))
        ⟨x4, rfl, s5, hR5, r2, by rw [List.take_zero, List.flatMap_nil, List.append_nil]; exact hs5⟩ (fun j σ H'' _ ⟨_, _, _, _, z, _⟩ => SqL.of z) ?_ ?_⟩
      · rintro j y σ H6 hj ⟨y4, rfl, s6, hR6, r6, hs6⟩
        obtain ⟨z, hz, rfl⟩ := iv_get hj
        have hjl := (List.getElem?_eq_some_iff.mp hz).1
        refine ⟨.ref sh, rfl, .inl ⟨rfl, _, SqL.of hs6⟩, _, rfl, _, rfl, z, u, rfl, hu, hu2, fun H7 t s7 nt ht => ?_⟩
        have hs7 := s7 _ _ hs6
        have f2 := few2 ((R.getD i []).take j)
        rw [List.length_take, hRr i hin] at f2
        refine ⟨sh, t, _, _, rfl, rfl, hs7, ht, ?_, ?_⟩
        · rw [iv_len, iv_len, List.length_append]
          refine Nat.le_of_lt (small1000 ?_)
          show _ + 2 ≤ 1000
          omega
        · refine ⟨_, rfl, same_put nsh (s6.trans s7), (hR6.same s7).put upd_same np, by rw [upd_ne hrsh]; exact s7 _ _ r6, ?_⟩
          rw [upd_same, take_more hz, List.flatMap_append, ← List.append_assoc]
          unfold iv
          rw [List.map_append, List.map_append, List.map_append, List.flatMap_cons, List.flatMap_nil, List.append_nil]
      · rintro σ H6 ⟨y4, rfl, s6, hR6, r6, hs6⟩
        rw [iv_len, List.take_length] at hs6
        refine ⟨_, _, _, rfl, s6, hR6, ?_⟩
        rw [hs6, take_more (hRat i hin), List.flatMap_append, List.flatMap_cons, List.flatMap_nil, List.append_nil]
    · rintro σ H' ⟨x2, x3, x4, rfl, s5, hR5, hs5⟩
      rw [List.length_map, hR.len, List.take_of_length_le (by omega), ← hsh] at hs5
      have := few10 n (Nat.le_refl _)
      rw [List.take_of_length_le (by omega), ← hsh] at this
      exact ⟨_, rfl, q H' sh s5 nsh hs5 this⟩
end
end My
set_option Elab.async false
set_option maxRecDepth 100000
set_option maxHeartbeats 4000000
namespace My
open PySem PySem.Spec PyProof.Rows L2
open Rc57 (orderOf Wishes looks)
abbrev sAGood : Stmt := top 44
abbrev sAOrder : Stmt := top 45
abbrev sAGroup : Stmt := top 46
abbrev sAEat : Stmt := top 47
theorem scAGood : FnScope ["circle", "given"] ["circle", "given"] (defScope sAGood) := ⟨rfl, rfl, rfl, by decide +kernel, rfl, by decide +kernel, by decide +kernel⟩
theorem scAOrder : FnScope ["circle", "given", "most", "order"] ["circle", "given", "most"] (defScope sAOrder) := ⟨rfl, rfl, rfl, by decide +kernel, rfl, by decide +kernel, by decide +kernel⟩
abbrev nAGroup : List Str := ["circle", "both", "own", "given", "group", "person"]
theorem scAGroup : FnScope nAGroup ["circle", "both"] (defScope sAGroup) := ⟨rfl, rfl, rfl, by decide +kernel, rfl, by decide +kernel, by decide +kernel⟩
theorem scAEat : FnScope ["circle", "most", "shares"] ["circle", "most"] (defScope sAEat) := ⟨rfl, rfl, rfl, by decide +kernel, rfl, by decide +kernel, by decide +kernel⟩
theorem CircAt.lks {K : PySem.W.Frag} {C gd : Addr} {H : Hp} {c wl : Addr} {s : Rc57.Abs} (h : CircAt C gd H c wl s) (ha : Rc57.all s = true) (hn : 0 < s.n) : Lks K H wl s.n (orderOf s.wishes) := by
  have hR := right_RightW ha
  obtain ⟨vs, h1, h2, h3⟩ := h.ex
  have key : ∀ (i : Nat), i < s.n → ∃ r, vs[i]? = some (V.ref r) ∧ H r = some (.lst (iv (orderOf s.wishes i))) := by
    intro i hi
    have a : vs[i]? = some (vs[i]'(by omega)) := List.getElem?_eq_getElem (by omega)
    have hl : i < s.wishes.length := by rw [h.len]; exact hi
    have b : (s.wishes : List (List Nat))[i]? = some ((s.wishes : List (List Nat))[i]'hl) := List.getElem?_eq_getElem hl
    have e := (hR.2 i hi).len
    have eo : orderOf s.wishes i = (s.wishes : List (List Nat))[i]'hl := by
      unfold orderOf
      rw [List.getD_eq_getElem?_getD, b]
      rfl
    rw [eo] at e ⊢
    generalize vs[i]'(by omega) = v at a
    generalize (s.wishes : List (List Nat))[i]'hl = l at b e
    cases h3 i v l a b with
    | non => rw [List.length_nil] at e; omega
    | lst p q _ => exact ⟨_, a, p⟩
  have all_ref : ∀ (us : List V), (∀ v ∈ us, ∃ r, v = V.ref r) → ∃ as : List Addr, us = as.map V.ref := by
    intro us
    induction us with
    | nil => intro _; exact ⟨[], rfl⟩
    | cons v us ih =>
      intro hu
      obtain ⟨r, e⟩ := hu v (List.mem_cons_self ..)
      obtain ⟨as, e2⟩ := ih fun v hv => hu v (List.mem_cons_of_mem _ hv)
      exact ⟨r :: as, by rw [e, e2]; rfl⟩
  obtain ⟨as, eas⟩ := all_ref vs (fun v hv => by
    obtain ⟨i, hi⟩ := List.mem_iff_getElem?.mp hv
    obtain ⟨r, a, _⟩ := key i (by have := (List.getElem?_eq_some_iff.mp hi).1; omega)
    rw [a] at hi
    exact ⟨r, (Option.some.inj hi).symm⟩)
  refine ⟨as, by rw [← h2, eas, List.length_map], SqL.of (eas ▸ h1), fun i hi => ?_⟩
  obtain ⟨r, a, e⟩ := key i hi
  refine ⟨r, ?_, SqL.of e⟩
  rw [eas, List.getElem?_map] at a
  cases q : as[i]? with
  | none => rw [q] at a; cases a
  | some x =>
    rw [q] at a
    cases a
    rfl
theorem first_len {s : Rc57.Abs} {g o : List Nat} (h : orderB s g = some o) : o.length = s.n := by
  have := ((mem_orders _ _ _ List.length_range).mp (List.mem_of_find?_eq_some h)).length_eq
  rw [this, List.length_range]
theorem first_is {s : Rc57.Abs} {g : List Nat} (hw : RightW s.n s.wishes) (hg : Each s.n g) : firstOf s.n s.wishes g = (orderB s g).getD [] := by
  unfold firstOf
  rw [orderB_greedy hw hg]
theorem first_good {s : Rc57.Abs} {g : List Nat} (hw : RightW s.n s.wishes) (hg : Each s.n g) (hn : 0 < s.n) : (!(firstOf s.n s.wishes g).isEmpty) = goodB s g := by
  rw [first_is hw hg, goodB_order hw hg]
  cases h : orderB s g with
  | none => rfl
  | some o =>
    have := first_len h
    cases o with
    | nil => rw [List.length_nil] at this; omega
    | cons a t => rfl
def goodDoes (s : Rc57.Abs) (row : List Int) : List Int := if Rc57.each s.n (nats row) = false then [-1] else [if goodB s (nats row) = true then 1 else 0]
def orderDoes (s : Rc57.Abs) (row : List Int) (m : Int) : List Int := if Rc57.each s.n (nats row) = false then [-1] else match orderB s (nats row) with
  | some o => writes 16 m o
  | none => [0]
def groupDoes (s : Rc57.Abs) (row : List Int) : List Int := if Rc57.twoGifts s (nats row) (row.length : Int) = false then [-1] else match groupB s ((nats row).take s.n) ((nats row).drop s.n) with
  | some k => [1, (k : Int)]
  | none => [0, 0]
def eatDoes (s : Rc57.Abs) (m : Int) : List Int := writes 128 m (Rc57.shares s.n s.wishes)
section
variable {P : Program} {w : World} {K : PySem.W.Frag} {mg : Str → Option Value} {base : Heap} {C : Addr}
/-- answer_good(circle, given) -/
def spAGood (C : Addr) : Sp := fun vs H Q _ => ∃ (c wl gd r : Addr) (s : Rc57.Abs) (row : List Int), vs = [.ref c, .ref r] ∧ CircAt C gd H c wl s ∧ RowAt H r row ∧ 0 < s.n ∧ Rc57.all s = true ∧ Done C gd c wl H Q s (goodDoes s row)
theorem ok_agood {f fE fS fG : Addr} {fd fdE fdS fdG : FuncData} {k : Nat} (F : Fun K "answer_good" "answer_good" sAGood f fd) (T : Txt K mg C)
    (GE : FnOk P w K mg base CX0 k fE fdE ["numbers", "size"] (spEach K)) (mE : mg "is_each_once" = some (.ref fE)) (pE : PySem.W.keepIn K (.ref fE) = true) (bE : Binds K fdE ["numbers", "size"] [])
    (GS : FnOk P w K mg base CX0 k fS fdS ["self"] (spSize C)) (mS : Meth K C "size" fS) (bS : Binds K fdS ["self"] [])
    (GG : FnOk P w K mg base CX0 k fG fdG ["wishes", "given"] (spGood K)) (mG : mg "is_good" = some (.ref fG)) (pG : PySem.W.keepIn K (.ref fG) = true) (bG : Binds K fdG ["wishes", "given"] [])
    (nW : Num mg "WRONG" (-1)) :
    FnOk P w K mg base CX0 (k + 1) f fd ["circle", "given"] (spAGood C) := by
  refine F.ok scAGood (fun vs H Q E h => ?_) (fun cdv A outer s H vs Q E hr h => ?_)
  · obtain ⟨_, _, _, _, _, _, rfl, _⟩ := h
    rfl
  · obtain ⟨c, wl, gd, r, st, row, rfl, hC, hRow, hn, ha, q⟩ := h
    obtain ⟨dx, hc⟩ := hC.obj
    refine ⟨_, pss_cons (ps_if (pt_not (pt_val (pe_call GE hr (by rfl) mE pE bE .nil pass0 (pa_cons (pv 1) (pa_cons (pe_meth0 (pv 0) T.cl mS GS hr bS .nil pass0) pa_nil))))) (pss_one (ps_ret (pe_lst (pa_cons (pe_num (by rfl) nW) pa_nil)))) pss_nil)
      (pss_cons (ps_if (pt_val (pe_call GG hr (by rfl) mG pG bG .nil pass0 (pa_cons (pe_fld (pv 0) rfl) (pa_cons (pv 1) pa_nil)))) (pss_one (ps_ret (pe_lst (pa_cons pe_int pa_nil)))) pss_nil)
      (pss_one (ps_ret (pe_lst (pa_cons pe_int pa_nil))))), ?_⟩
    refine ⟨_, rfl, _, rfl, c, dx, _, rfl, hc, cF_none wl (by decide), c, wl, gd, st, rfl, hC, ?_⟩
    refine ⟨r, row, st.n, rfl, SqL.of hRow.at_, hRow.few, hRow.pos, by have := hC.most; omega, fun H1 s1 => ⟨_, rfl, ?_⟩⟩
    unfold goodDoes at q
    refine ite2 (fun e => ?_) (fun e => ?_)
    · rw [if_pos (by cases z : Rc57.each st.n (nats row); rfl; rw [z] at e; cases e)] at q
      exact ⟨by decide, fun p np => q.same hC (s1.trans (same_upd np)) (s1.free np) upd_same⟩
    · have e' : Rc57.each st.n (nats row) = true := by
        cases z : Rc57.each st.n (nats row)
        · rw [z] at e; exact absurd rfl e
        · rfl
      rw [if_neg (by rw [e']; intro z; cases z)] at q
      obtain ⟨hW, hRW⟩ := (hC.same s1).wsh (K := K) ha hn
      have hE := each_Each e'
      refine ⟨_, rfl, c, C, dx, _, _, rfl, s1 _ _ hc, T.cl, T.nW, cF_wishes wl, _, rfl, wl, r, st.wishes, nats row, st.n, rfl, hW, ?_, hRW, hE, by have := hC.most; omega, fun H2 s2 => ⟨_, rfl, ?_⟩⟩
      · rw [iv_nats hRow.pos]
        exact SqL.of (s1 _ _ hRow.at_)
      · have s3 := s1.trans s2
        rw [first_good hRW hE hn]
        refine ite2 (fun g => ?_) (fun g => ?_)
        · rw [if_pos g] at q
          exact ⟨by decide, fun p np => q.same hC (s3.trans (same_upd np)) (s3.free np) upd_same⟩
        · rw [if_neg g] at q
          exact ⟨by decide, fun p np => q.same hC (s3.trans (same_upd np)) (s3.free np) upd_same⟩
/-- whether a list has no room -/
theorem room_lt {most : Nat} {m : Int} {l : Nat} : ((if 1 ≤ m ∧ m ≤ (most : Int) then m else 0) < (l : Int)) ↔ Rc57.roomOf most m < l := by
  unfold Rc57.roomOf
  by_cases c : 1 ≤ m ∧ m ≤ (most : Int)
  · rw [if_pos c, if_pos c]
    omega
  · rw [if_neg c, if_neg c]
    omega
/-- answer_order(circle, given, most) -/
def spAOrder (C : Addr) : Sp := fun vs H Q _ => ∃ (c wl gd r : Addr) (s : Rc57.Abs) (row : List Int) (m : Int), vs = [.ref c, .ref r, .int m] ∧ CircAt C gd H c wl s ∧ RowAt H r row ∧ 0 < s.n ∧ Rc57.all s = true ∧ Done C gd c wl H Q s (orderDoes s row m)
theorem ok_aorder {f fE fS fF fR : Addr} {fd fdE fdS fdF fdR : FuncData} {k : Nat} (F : Fun K "answer_order" "answer_order" sAOrder f fd) (T : Txt K mg C) (mLen : mg "len" = none)
    (GE : FnOk P w K mg base CX0 k fE fdE ["numbers", "size"] (spEach K)) (mE : mg "is_each_once" = some (.ref fE)) (pE : PySem.W.keepIn K (.ref fE) = true) (bE : Binds K fdE ["numbers", "size"] [])
    (GS : FnOk P w K mg base CX0 k fS fdS ["self"] (spSize C)) (mS : Meth K C "size" fS) (bS : Binds K fdS ["self"] [])
    (GF : FnOk P w K mg base CX0 k fF fdF ["wishes", "given"] (spFirst K)) (mF : mg "first_order" = some (.ref fF)) (pF : PySem.W.keepIn K (.ref fF) = true) (bF : Binds K fdF ["wishes", "given"] [])
    (GR : FnOk P w K mg base CX0 k fR fdR ["most", "highest"] spRoom) (mR : mg "room_within" = some (.ref fR)) (pR : PySem.W.keepIn K (.ref fR) = true) (bR : Binds K fdR ["most", "highest"] [])
    (nW : Num mg "WRONG" (-1)) (nN : Num mg "NO_ROOM" (-2)) (nM : Num mg "MOST_PEOPLE" 16) :
    FnOk P w K mg base CX0 (k + 1) f fd ["circle", "given", "most"] (spAOrder C) := by
  refine F.ok scAOrder (fun vs H Q E h => ?_) (fun cdv A outer s H vs Q E hr h => ?_)
  · obtain ⟨_, _, _, _, _, _, _, rfl, _⟩ := h
    rfl
  · obtain ⟨c, wl, gd, r, st, row, m, rfl, hC, hRow, hn, ha, q⟩ := h
    obtain ⟨dx, hc⟩ := hC.obj
    refine ⟨_, pss_cons (ps_if (pt_not (pt_val (pe_call GE hr (by rfl) mE pE bE .nil pass0 (pa_cons (pv 1) (pa_cons (pe_meth0 (pv 0) T.cl mS GS hr bS .nil pass0) pa_nil))))) (pss_one (ps_ret (pe_lst (pa_cons (pe_num (by rfl) nW) pa_nil)))) pss_nil)
      (pss_cons (ps_set (i := 3) scAOrder.nd rfl (Or.inl rfl) (pe_call GF hr (by rfl) mF pF bF .nil pass0 (pa_cons (pe_fld (pv 0) rfl) (pa_cons (pv 1) pa_nil))))
      (pss_cons (ps_if (pt_cmpR op_gt (pe_callB call_len_seq (by rfl) mLen PySem.boot_len (pa_cons (pv 3) pa_nil)) (pe_call GR hr (by rfl) mR pR bR .nil pass0 (pa_cons (pv 2) (pa_cons (pe_num (by rfl) nM) pa_nil))) (nomark _)) (pss_one (ps_ret (pe_lst (pa_cons (pe_num (by rfl) nN) pa_nil)))) pss_nil)
      (pss_one (ps_ret (pe_op op_cat (pe_lst (pa_cons (pe_callB call_len_seq (by rfl) mLen PySem.boot_len (pa_cons (pv 3) pa_nil)) pa_nil)) (pv 3)))))), ?_⟩
    refine ⟨_, rfl, _, rfl, c, dx, _, rfl, hc, cF_none wl (by decide), c, wl, gd, st, rfl, hC, ?_⟩
    refine ⟨r, row, st.n, rfl, SqL.of hRow.at_, hRow.few, hRow.pos, by have := hC.most; omega, fun H1 s1 => ⟨_, rfl, ?_⟩⟩
    unfold orderDoes at q
    refine ite2 (fun e => ?_) (fun e => ?_)
    · rw [if_pos (by cases z : Rc57.each st.n (nats row); rfl; rw [z] at e; cases e)] at q
      exact ⟨by decide, fun p np => q.same hC (s1.trans (same_upd np)) (s1.free np) upd_same⟩
    · have e' : Rc57.each st.n (nats row) = true := by
        cases z : Rc57.each st.n (nats row)
        · rw [z] at e; exact absurd rfl e
        · rfl
      rw [if_neg (by rw [e']; intro z; cases z)] at q
      obtain ⟨hW, hRW⟩ := (hC.same s1).wsh (K := K) ha hn
      have hE := each_Each e'
      have hfl : (firstOf st.n st.wishes (nats row)).length ≤ 5 := by
        rw [first_is hRW hE]
        cases h : orderB st (nats row) with
        | none => exact Nat.zero_le _
        | some o =>
          show o.length ≤ 5
          rw [first_len h]
          exact hC.most
      refine ⟨_, rfl, c, C, dx, _, _, rfl, s1 _ _ hc, T.cl, T.nW, cF_wishes wl, _, rfl, wl, r, st.wishes, nats row, st.n, rfl, hW, ?_, hRW, hE, by have := hC.most; omega, fun H2 p s2 np hp => ?_⟩
      · rw [iv_nats hRow.pos]
        exact SqL.of (s1 _ _ hRow.at_)
      · have s3 := s1.trans s2
        have q2 : (match orderB st (nats row) with
            | some o => writes 16 m o
            | none => [0]) = writes 16 m (firstOf st.n st.wishes (nats row)) := by
          rw [first_is hRW hE]
          cases orderB st (nats row) with
          | none => rfl
          | some o => rfl
        rw [q2] at q
        generalize firstOf st.n st.wishes (nats row) = o at hp hfl q
        unfold writes at q
        refine ⟨_, rfl, p, _, rfl, .inl (SqL.of hp), _, rfl, m, 16, rfl, _, _, rfl, rfl, _, rfl, ?_⟩
        rw [iv_len]
        refine ite2 (fun g => ?_) (fun g => ?_)
        · have g2 := (room_lt (most := 16)).mp (of_decide_eq_true g)
          rw [if_pos g2] at q
          exact ⟨by decide, fun t nt => q.same hC (s3.trans (same_upd nt)) (s3.free nt) upd_same⟩
        · have g2 : ¬ Rc57.roomOf 16 m < o.length := fun z => g (decide_eq_true ((room_lt (most := 16)).mpr z))
          rw [if_neg g2] at q
          refine ⟨_, rfl, p, _, rfl, .inl (SqL.of hp), (show 1 ≤ sizeLine by decide), fun p1 n1 => ?_⟩
          have s4 := same_upd (o := .lst [V.int ((iv o).length : Nat)]) n1
          refine ⟨_, rfl, p1, p, _, _, rfl, rfl, upd_same, s4 _ _ hp, ?_, fun t nt => q.same hC ((s3.trans s4).trans (same_upd nt)) ((s3.trans s4).free nt) ?_⟩
          · rw [iv_len]
            exact Nat.le_of_lt (small1000 (by show 1 + o.length ≤ 1000; omega))
          · rw [upd_same, iv_len, cons_iv]
            rfl
/-- answer_eat(circle, most) -/
def spAEat (C : Addr) : Sp := fun vs H Q _ => ∃ (c wl gd : Addr) (s : Rc57.Abs) (m : Int), vs = [.ref c, .int m] ∧ CircAt C gd H c wl s ∧ 0 < s.n ∧ Rc57.all s = true ∧ Done C gd c wl H Q s (eatDoes s m)
theorem ok_aeat {f fS fF fR : Addr} {fd fdS fdF fdR : FuncData} {k : Nat} (F : Fun K "answer_eat" "answer_eat" sAEat f fd) (T : Txt K mg C) (mLen : mg "len" = none)
    (GS : FnOk P w K mg base CX0 k fS fdS ["self"] (spSize C)) (mS : Meth K C "size" fS) (bS : Binds K fdS ["self"] [])
    (GF : FnOk P w K mg base CX0 k fF fdF ["wishes"] (spShares K)) (mF : mg "eaten_shares" = some (.ref fF)) (pF : PySem.W.keepIn K (.ref fF) = true) (bF : Binds K fdF ["wishes"] [])
    (GR : FnOk P w K mg base CX0 k fR fdR ["most", "highest"] spRoom) (mR : mg "room_within" = some (.ref fR)) (pR : PySem.W.keepIn K (.ref fR) = true) (bR : Binds K fdR ["most", "highest"] [])
    (nW : Num mg "WRONG" (-1)) (nN : Num mg "NO_ROOM" (-2)) (nE : Num mg "MOST_EATERS" 8) (nM : Num mg "MOST_SHARE_NUMBERS" 128) :
    FnOk P w K mg base CX0 (k + 1) f fd ["circle", "most"] (spAEat C) := by
  refine F.ok scAEat (fun vs H Q E h => ?_) (fun cdv A outer s H vs Q E hr h => ?_)
  · obtain ⟨_, _, _, _, _, rfl, _⟩ := h
    rfl
  · obtain ⟨c, wl, gd, st, m, rfl, hC, hn, ha, q⟩ := h
    obtain ⟨dx, hc⟩ := hC.obj
    refine ⟨_, pss_cons (ps_if (pt_cmpR op_gt (pe_meth0 (pv 0) T.cl mS GS hr bS .nil pass0) (pe_num (by rfl) nE) (nomark _)) (pss_one (ps_ret (pe_lst (pa_cons (pe_num (by rfl) nW) pa_nil)))) pss_nil)
      (pss_cons (ps_set (i := 2) scAEat.nd rfl (Or.inl rfl) (pe_call GF hr (by rfl) mF pF bF .nil pass0 (pa_cons (pe_fld (pv 0) rfl) pa_nil)))
      (pss_cons (ps_if (pt_cmpR op_gt (pe_callB call_len_seq (by rfl) mLen PySem.boot_len (pa_cons (pv 2) pa_nil)) (pe_call GR hr (by rfl) mR pR bR .nil pass0 (pa_cons (pv 1) (pa_cons (pe_num (by rfl) nM) pa_nil))) (nomark _)) (pss_one (ps_ret (pe_lst (pa_cons (pe_num (by rfl) nN) pa_nil)))) pss_nil)
      (pss_one (ps_ret (pe_op op_cat (pe_lst (pa_cons (pe_callB call_len_seq (by rfl) mLen PySem.boot_len (pa_cons (pv 2) pa_nil)) pa_nil)) (pv 2)))))), ?_⟩
    refine ⟨_, rfl, c, dx, _, rfl, hc, cF_none wl (by decide), c, wl, gd, st, rfl, hC, ?_⟩
    refine ⟨_, _, rfl, rfl, _, rfl, ite2 (fun e => ?_) (fun e => ?_)⟩
    · have := of_decide_eq_true e
      have := hC.most
      omega
    · have hL := hC.lks (K := K) ha hn
      have hRW := right_RightW ha
      refine ⟨_, rfl, c, C, dx, _, _, rfl, hc, T.cl, T.nW, cF_wishes wl, wl, st.wishes, st.n, rfl, hL, hRW, hn, hC.most, fun H2 p s3 np hp hfl => ?_⟩
      unfold eatDoes at q
      generalize Rc57.shares st.n st.wishes = o at hp hfl q
      unfold writes at q
      refine ⟨_, rfl, p, _, rfl, .inl (SqL.of hp), _, rfl, m, 128, rfl, _, _, rfl, rfl, _, rfl, ?_⟩
      rw [iv_len]
      refine ite2 (fun g => ?_) (fun g => ?_)
      · have g2 := (room_lt (most := 128)).mp (of_decide_eq_true g)
        rw [if_pos g2] at q
        exact ⟨by decide, fun t nt => q.same hC (s3.trans (same_upd nt)) (s3.free nt) upd_same⟩
      · have g2 : ¬ Rc57.roomOf 128 m < o.length := fun z => g (decide_eq_true ((room_lt (most := 128)).mpr z))
        rw [if_neg g2] at q
        refine ⟨_, rfl, p, _, rfl, .inl (SqL.of hp), (show 1 ≤ sizeLine by decide), fun p1 n1 => ?_⟩
        have s4 := same_upd (o := .lst [V.int ((iv o).length : Nat)]) n1
        refine ⟨_, rfl, p1, p, _, _, rfl, rfl, upd_same, s4 _ _ hp, ?_, fun t nt => q.same hC ((s3.trans s4).trans (same_upd nt)) ((s3.trans s4).free nt) ?_⟩
        · rw [iv_len]
          exact Nat.le_of_lt (small1000 (by show 1 + o.length ≤ 1000; omega))
        · rw [upd_same, iv_len, cons_iv]
          rfl
theorem cut_toI (row : List Int) (n : Nat) : cutV (row.map V.int) none (some (n : Int)) = (row.take n).map V.int := by
  unfold cutV
  rw [HT.sIx_nat, HT.sIx_none, List.drop_zero, Nat.sub_zero, List.map_take, List.length_map]
  by_cases c : n ≤ row.length
  · rw [Nat.min_eq_left c]
  · rw [Nat.min_eq_right (by omega), List.take_of_length_le (by rw [List.length_map]; exact Nat.le_refl _), List.take_of_length_le (by rw [List.length_map]; omega)]
theorem cut_fromI (row : List Int) (n : Nat) : cutV (row.map V.int) (some (n : Int)) none = (row.drop n).map V.int := by
  unfold cutV
  rw [HT.sIx_nat, HT.sIx_none, List.map_drop, List.length_map]
  by_cases c : n ≤ row.length
  · rw [Nat.min_eq_left c, List.take_of_length_le (by rw [List.length_drop, List.length_map]; exact Nat.le_refl _)]
  · rw [Nat.min_eq_right (by omega), List.drop_of_length_le (by rw [List.length_map]; exact Nat.le_refl _), List.drop_of_length_le (by rw [List.length_map]; omega)]
    exact List.take_nil
theorem two_gifts {s : Rc57.Abs} {row : List Int} : Rc57.twoGifts s (nats row) (row.length : Int) = (Rc57.each s.n (nats (row.take s.n)) && Rc57.each s.n (nats (row.drop s.n))) := by
  unfold Rc57.twoGifts nats
  rw [List.map_take, List.map_drop, Bool.eq_iff_iff, Bool.and_eq_true, Bool.and_eq_true, decide_eq_true_eq]
  constructor
  · exact fun h => Bool.and_eq_true _ _ ▸ h.2
  · rintro ⟨h1, h2⟩
    refine ⟨?_, by rw [h1, h2]; exact ⟨rfl, rfl⟩⟩
    have l1 := (each_Each h1).len
    have l2 := (each_Each h2).len
    rw [List.length_take, List.length_map] at l1
    rw [List.length_drop, List.length_map] at l2
    omega
/-- answer_group(circle, both) -/
def spAGroup (C : Addr) : Sp := fun vs H Q _ => ∃ (c wl gd r : Addr) (s : Rc57.Abs) (row : List Int), vs = [.ref c, .ref r] ∧ CircAt C gd H c wl s ∧ RowAt H r row ∧ 0 < s.n ∧ Rc57.all s = true ∧ Done C gd c wl H Q s (groupDoes s row)
theorem ok_agroup {f fE fS fG : Addr} {fd fdE fdS fdG : FuncData} {k : Nat} (F : Fun K "answer_group" "answer_group" sAGroup f fd) (T : Txt K mg C) (mSum : mg "sum" = none)
    (GE : FnOk P w K mg base CX0 k fE fdE ["numbers", "size"] (spEach K)) (mE : mg "is_each_once" = some (.ref fE)) (pE : PySem.W.keepIn K (.ref fE) = true) (bE : Binds K fdE ["numbers", "size"] [])
    (GS : FnOk P w K mg base CX0 k fS fdS ["self"] (spSize C)) (mS : Meth K C "size" fS) (bS : Binds K fdS ["self"] [])
    (GG : FnOk P w K mg base CX0 k fG fdG ["wishes", "own", "given"] (spGroup K)) (mG : mg "least_group" = some (.ref fG)) (pG : PySem.W.keepIn K (.ref fG) = true) (bG : Binds K fdG ["wishes", "own", "given"] [])
    (nW : Num mg "WRONG" (-1)) :
    FnOk P w K mg base CX0 (k + 1) f fd ["circle", "both"] (spAGroup C) := by
  refine F.ok scAGroup (fun vs H Q E h => ?_) (fun cdv A outer s H vs Q E hr h => ?_)
  · obtain ⟨_, _, _, _, _, _, rfl, _⟩ := h
    rfl
  · obtain ⟨c, wl, gd, r, st, row, rfl, hC, hRow, hn, ha, q⟩ := h
    obtain ⟨dx, hc⟩ := hC.obj
    refine ⟨_, pss_cons (ps_set (i := 2) scAGroup.nd rfl (Or.inl rfl) (pe_slice sl_list (pv 1) po_none (po_some (pe_meth0 (pv 0) T.cl mS GS hr bS .nil pass0))))
      (pss_cons (ps_set (i := 3) scAGroup.nd rfl (Or.inl rfl) (pe_slice sl_list (pv 1) (po_some (pe_meth0 (pv 0) T.cl mS GS hr bS .nil pass0)) po_none))
      (pss_cons (ps_if (PW.pt (pw_or (pt_not (pt_val (pe_call GE hr (by rfl) mE pE bE .nil pass0 (pa_cons (pv 2) (pa_cons (pe_meth0 (pv 0) T.cl mS GS hr bS .nil pass0) pa_nil)))))
          (pw_or1 (pt_not (pt_val (pe_call GE hr (by rfl) mE pE bE .nil pass0 (pa_cons (pv 3) (pa_cons (pe_meth0 (pv 0) T.cl mS GS hr bS .nil pass0) pa_nil)))))))) (pss_one (ps_ret (pe_lst (pa_cons (pe_num (by rfl) nW) pa_nil)))) pss_nil)
      (pss_cons (ps_set (i := 4) scAGroup.nd rfl (Or.inl rfl) (pe_call GG hr (by rfl) mG pG bG .nil pass0 (pa_cons (pe_fld (pv 0) rfl) (pa_cons (pv 2) (pa_cons (pv 3) pa_nil)))))
      (pss_cons (ps_if (pt_cmpR (op_eqD hr.units) (pv 4) (pe_lst pa_nil) (nomark _)) (pss_one (ps_ret (pe_lst (pa_cons pe_int (pa_cons pe_int pa_nil))))) pss_nil)
      (pss_one (ps_ret (pe_lst (pa_cons pe_int (pa_cons (pe_callB (cr_sum rfl) (by rfl) mSum (by decide +kernel) (pa_cons
        (pe_lc (own := [("person", 5)]) (g := gName 5) (by rfl) scAGroup.nd (pi_list (pv 4)) (blkOk_by (N := nAGroup) (sc := defScope sAGroup) (by decide +kernel)) (fun _ _ _ _ _ => pg_name (i := 5) scAGroup.nd rfl (Or.inl rfl))
          (fun _ _ _ _ _ => pts_nil) (fun _ _ _ _ _ => pe_op op_shl pe_int (pv 5))) pa_nil)) pa_nil)))))))))
      , ?_⟩
    refine ⟨_, rfl, _, rfl, c, dx, _, rfl, hc, cF_none wl (by decide), c, wl, gd, st, rfl, hC, _, rfl, r, _, rfl, SqL.of hRow.at_, fun ow now => ?_⟩
    rw [cut_toI]
    have s1 := same_upd (o := .lst ((row.take st.n).map V.int)) now
    refine ⟨_, rfl, _, rfl, c, dx, _, rfl, s1 _ _ hc, cF_none wl (by decide), c, wl, gd, st, rfl, hC.same s1, _, rfl, r, _, rfl, SqL.of (s1 _ _ hRow.at_), fun gv ngv => ?_⟩
    rw [cut_fromI]
    have s2 := same_upd (o := .lst ((row.drop st.n).map V.int)) ngv
    have s3 := s1.trans s2
    have pos1 : ∀ x ∈ row.take st.n, 0 ≤ x := fun x hx => hRow.pos x (List.mem_of_mem_take hx)
    have pos2 : ∀ x ∈ row.drop st.n, 0 ≤ x := fun x hx => hRow.pos x (List.mem_of_mem_drop hx)
    have h1000 : st.n ≤ 1000 := by have := hC.most; omega
    unfold groupDoes at q
    have bad : ∀ H4, Same H H4 → (Rc57.each st.n (nats (row.take st.n)) && Rc57.each st.n (nats (row.drop st.n))) = false → 1 ≤ sizeLine ∧ ∀ p, H4 p = none → Q (.ref p) (upd H4 p (.lst [V.int (-1)])) := fun H4 s4 z => by
      rw [if_pos (by rw [two_gifts, z])] at q
      exact ⟨by decide, fun p np => q.same hC (s4.trans (same_upd np)) (s4.free np) upd_same⟩
    refine ⟨_, rfl, _, rfl, c, dx, _, rfl, s3 _ _ hc, cF_none wl (by decide), c, wl, gd, st, rfl, hC.same s3, ow, row.take st.n, st.n, rfl, SqL.of (s2 _ _ upd_same), ?_, pos1, h1000, fun H4 s4 => ⟨_, rfl, ?_⟩⟩
    · exact Nat.lt_of_le_of_lt (List.length_take_le' ..) hRow.few
    have s5 := s3.trans s4
    have how := s4 _ _ (s2 _ _ (upd_same (H := H) (a := ow)))
    have hgv := s4 _ _ (upd_same (H := upd H ow (.lst ((row.take st.n).map V.int))) (a := gv))
    refine ite2 (fun e => ?_) (fun e => ?_)
    · refine iteT (bad H4 s5 ?_)
      have : Rc57.each st.n (nats (row.take st.n)) = false := by cases z : Rc57.each st.n (nats (row.take st.n)); rfl; rw [z] at e; cases e
      rw [this]
      rfl
    · have e1 : Rc57.each st.n (nats (row.take st.n)) = true := by
        cases z : Rc57.each st.n (nats (row.take st.n))
        · rw [z] at e; exact absurd rfl e
        · rfl
      refine ⟨_, rfl, _, rfl, c, dx, _, rfl, s5 _ _ hc, cF_none wl (by decide), c, wl, gd, st, rfl, hC.same s5, gv, row.drop st.n, st.n, rfl, SqL.of hgv, ?_, pos2, h1000, fun H5 s6 => ⟨_, rfl, ?_⟩⟩
      · refine Nat.lt_of_le_of_lt ?_ hRow.few
        rw [List.length_drop]
        exact Nat.sub_le ..
      have s7 := s5.trans s6
      refine ite2 (fun f => ?_) (fun f => ?_)
      · refine bad H5 s7 ?_
        have : Rc57.each st.n (nats (row.drop st.n)) = false := by cases z : Rc57.each st.n (nats (row.drop st.n)); rfl; rw [z] at f; cases f
        rw [this, Bool.and_false]
      · have e2 : Rc57.each st.n (nats (row.drop st.n)) = true := by
          cases z : Rc57.each st.n (nats (row.drop st.n))
          · rw [z] at f; exact absurd rfl f
          · rfl
        rw [if_neg (by rw [two_gifts, e1, e2]; intro z; cases z)] at q
        obtain ⟨hW, hRW⟩ := (hC.same s7).wsh (K := K) ha hn
        have hE1 := each_Each e1
        have hE2 := each_Each e2
        have e3 : (nats row).take st.n = nats (row.take st.n) := by unfold nats; rw [List.map_take]
        have e4 : (nats row).drop st.n = nats (row.drop st.n) := by unfold nats; rw [List.map_drop]
        rw [e3, e4] at q
        replace q : Done C gd c wl H Q st (if (groupOf st.n st.wishes (nats (row.take st.n)) (nats (row.drop st.n))).isEmpty = true then [0, 0] else [1, ((((groupOf st.n st.wishes (nats (row.take st.n)) (nats (row.drop st.n))).map fun i => 2 ^ i).sum : Nat) : Int)]) := by
          rw [← groupB_of]
          exact q
        refine ⟨_, rfl, c, C, dx, _, _, rfl, s7 _ _ hc, T.cl, T.nW, cF_wishes wl, _, rfl, _, rfl, wl, ow, gv, st.wishes, nats (row.take st.n), nats (row.drop st.n), st.n, rfl, hW, ?_, ?_, hRW, hE1, hE2, h1000, fun H6 p s8 np hp => ?_⟩
        · rw [iv_nats pos1]
          exact SqL.of (s6 _ _ how)
        · rw [iv_nats pos2]
          exact SqL.of (s6 _ _ hgv)
        · have s9 := s7.trans s8
          have hbig : ∀ x ∈ groupOf st.n st.wishes (nats (row.take st.n)) (nats (row.drop st.n)), x < st.n := fun x hx => by
            unfold groupOf at hx
            split at hx
            · exact List.mem_range.mp (List.mem_filter.mp hx).1
            · exact absurd hx List.not_mem_nil
          have hfew : (groupOf st.n st.wishes (nats (row.take st.n)) (nats (row.drop st.n))).length ≤ st.n := by
            unfold groupOf
            split
            · refine Nat.le_trans (List.length_filter_le ..) ?_
              rw [List.length_range]
              exact Nat.le_refl _
            · exact Nat.zero_le _
          generalize groupOf st.n st.wishes (nats (row.take st.n)) (nats (row.drop st.n)) = gr at hp q hbig hfew
          refine ⟨_, rfl, Nat.zero_le _, fun q0 nq => ?_⟩
          have sq := same_upd (o := .lst []) nq
          refine ⟨_, _, .lst (SqL.of (by rw [sq _ _ hp, iv_ints])) (dpAll_ints K _ _), .lst (SqL.of (xs := ([] : List Int).map V.int) upd_same) (dpAll_ints K _ []), shaped_ints _, shaped_ints _, _, rfl, ?_⟩
          rw [iv_nil_eqv]
          have s10 := s9.trans sq
          refine ite2 (fun g => ?_) (fun g => ?_)
          · rw [if_pos g] at q
            exact ⟨by decide, fun t nt => q.same hC (s10.trans (same_upd nt)) (s10.free nt) upd_same⟩
          · rw [if_neg g] at q
            have hp2 := sq _ _ hp
            refine ⟨_, rfl, p, rfl, ⟨_, SqL.of hp2⟩, fun D hD => ?_⟩
            refine lc_list (K := K) (a := p) (xs := iv gr) (fun i H7 => Same (upd H6 q0 (.lst [])) H7 ∧ H7 D = some (.lst (iv ((gr.take i).map fun x => 2 ^ x)))) ⟨same_upd hD, upd_same⟩ (fun i H7 _ h => h.1.seq (SqL.of hp2)) ?_ ?_
            · rintro i y H7 hi ⟨sm, hDl⟩
              obtain ⟨z, hz, rfl⟩ := iv_get hi
              have hzn := hbig z (List.mem_of_getElem? hz)
              have hil := (List.getElem?_eq_some_iff.mp hz).1
              refine ⟨rfl, yes_go ?_⟩
              refine ⟨_, rfl, _, _, rfl, rfl, ⟨by omega, by omega, by decide⟩, _, hDl, ?_, same_put hD sm, ?_⟩
              · rw [iv_len, List.length_map]
                refine small1000 (Nat.le_trans (List.length_take_le' ..) ?_)
                omega
              · rw [upd_same, take_more hz, List.map_append]
                have ev : V.int (1 * 2 ^ ((z : Int)).toNat) = V.int ((2 ^ z : Nat) : Int) := by
                  rw [Int.one_mul, Int.toNat_natCast, Int.natCast_pow]
                  rfl
                show some (HO.lst (iv _ ++ [V.int (1 * 2 ^ ((z : Int)).toNat)])) = _
                rw [ev, ← iv_snoc]
                rfl
            · rintro H7 ⟨sm, hDl⟩
              rw [iv_len, List.take_length] at hDl
              have s11 := s10.trans sm
              refine ⟨D, (gr.map fun x => 2 ^ x).map (fun n : Nat => (n : Int)), rfl, SqL.of (by rw [hDl, iv_ints]), (show 2 ≤ sizeLine by decide), fun t nt => q.same hC (s11.trans (same_upd nt)) (s11.free nt) ?_⟩
              rw [upd_same, sum_int]
              rfl
end
end My
set_option Elab.async false
set_option maxRecDepth 100000
set_option maxHeartbeats 4000000
namespace My
open PySem PySem.Spec PyProof.Rows L2
abbrev sAns : Stmt := top 36
theorem scAns : FnScope ["calls", "circle", "told", "number", "value", "row", "answer"] ["calls"] (defScope sAns) := ⟨rfl, rfl, rfl, by decide +kernel, rfl, by decide +kernel, by decide +kernel⟩
theorem Good.row {c : RCall} (h : Good c) : (pRow c).length < 64 ∧ ∀ x ∈ pRow c, 0 ≤ x := by
  cases h with
  | begin => exact ⟨by decide, fun x hx => absurd hx List.not_mem_nil⟩
  | people _ => exact ⟨by show 0 < 64; decide, fun x hx => absurd hx List.not_mem_nil⟩
  | eat => exact ⟨by show 0 < 64; decide, fun x hx => absurd hx List.not_mem_nil⟩
  | wish h => exact ⟨Nat.lt_of_le_of_lt h.few (by decide), h.pos⟩
  | trade h => exact ⟨Nat.lt_of_le_of_lt h.few (by decide), h.pos⟩
  | turns h => exact ⟨Nat.lt_of_le_of_lt h.few (by decide), h.pos⟩
  | good h => exact ⟨Nat.lt_of_le_of_lt h.few (by decide), h.pos⟩
  | order h => exact ⟨Nat.lt_of_le_of_lt h.few (by decide), h.pos⟩
  | group h => exact ⟨Nat.lt_of_le_of_lt h.few (by decide), h.pos⟩
theorem CircAt.put {C gd : Addr} {H : Hp} {c wl : Addr} {s : Rc57.Abs} {o : HO} (h : CircAt C gd H c wl s) (h1 : c ≠ gd) (h2 : wl ≠ gd) : CircAt C gd (upd H gd o) c wl s := by
  obtain ⟨dx, e⟩ := h.obj
  obtain ⟨vs, e1, e2, e3⟩ := h.ex
  refine ⟨⟨dx, by rw [upd_ne h1]; exact e⟩, ⟨vs, by rw [upd_ne h2]; exact e1, e2, fun i v l a b => ?_⟩, h.len, h.most⟩
  cases e3 i v l a b with
  | non => exact .non
  | lst p q r => exact .lst (by rw [upd_ne r]; exact p) q r
theorem told_cons {s : Rc57.Abs} {c : RCall} {r : List RCall} : PyFlat.told (PyFlat.played Rc57Neutral.step s ((c :: r).map PyRc57.whole)) = (((stepOf s c).2.length : Nat) : Int) :: ((stepOf s c).2 ++ PyFlat.told (PyFlat.played Rc57Neutral.step (stepOf s c).1 (r.map PyRc57.whole))) := rfl
section
variable {P : Program} {w : World} {K : PySem.W.Frag} {mg : Str → Option Value} {base : Heap} {C : Addr}
/-- answer_to(circle, number, value, row) -/
def spTo (C : Addr) : Sp := fun vs H Q _ => ∃ (c wl gd r : Addr) (s : Rc57.Abs) (cc : RCall), vs = [.ref c, .int (pNum cc), .int (pVal cc), .ref r] ∧ CircAt C gd H c wl s ∧ RowAt H r (pRow cc) ∧ r ≠ gd ∧ Good cc ∧
  Done C gd c wl H Q (stepOf s cc).1 (stepOf s cc).2
/-- answers(calls) -/
def spAns (K : PySem.W.Frag) : Sp := fun vs H Q _ => ∃ (a : Addr) (ns : List Int), vs = [.ref a] ∧ SqL K H a (ns.map V.int) ∧ ns.length ≤ 30000 ∧ PyRc57.answers_asked ns = true ∧
  ∀ (H' : Hp) (p : Addr), H' p = some (.lst ((PyRc57.answers ns).map V.int)) → Q (.ref p) H'
theorem ok_ans {f fI fA fT : Addr} {fd fdI fdA fdT : FuncData} {k kI kA kT : Nat} (F : Fun K "answers" "answers" sAns f fd) (T : Txt K mg C) (M : Mk K C fI) (gC : mg "Circle" = some (.ref C)) (mLen : mg "len" = none)
    (GI : FnOk P w K mg base CX0 kI fI fdI ["self"] (spInit C)) (bI : Binds K fdI ["self"] []) (lI : kI + 1 ≤ k)
    (GA : FnOk P w K mg base CX0 kA fA fdA ["calls"] (spApart K)) (mA : mg "taken_apart" = some (.ref fA)) (pA : PySem.W.keepIn K (.ref fA) = true) (bA : Binds K fdA ["calls"] []) (lA : kA ≤ k)
    (GT : FnOk P w K mg base CX0 kT fT fdT ["circle", "number", "value", "row"] (spTo C)) (mT : mg "answer_to" = some (.ref fT)) (pT : PySem.W.keepIn K (.ref fT) = true) (bT : Binds K fdT ["circle", "number", "value", "row"] []) (lT : kT ≤ k) :
    FnOk P w K mg base CX0 (k + 1) f fd ["calls"] (spAns K) := by
  refine F.ok scAns (fun vs H Q E h => ?_) (fun cdv A outer s H vs Q E hr h => ?_)
  · obtain ⟨a, _, rfl, _⟩ := h
    rfl
  · obtain ⟨a, ns, rfl, hA, hlen, hask, q⟩ := h
    obtain ⟨raw, e1, e2, e3, e4, e5⟩ := asked_good hask
    refine ⟨_, pss_cons (ps_set (i := 1) scAns.nd rfl (Or.inl rfl) (pe_make0 M GI (hr.mono lI) rfl gC bI .nil pass0))
      (pss_cons (ps_set (i := 2) scAns.nd rfl (Or.inl rfl) (pe_lst pa_nil))
      (pss_cons (ps_for PassesOwn.never rfl (pi_list (pe_call GA (hr.mono lA) (by rfl) mA pA bA .nil pass0 (pa_cons (pv 0) pa_nil)))
          (pg_tup rfl (pgs_cons (pg_name (i := 3) scAns.nd rfl (.inl rfl)) (pgs_cons (pg_name (i := 4) scAns.nd rfl (.inl rfl)) (pgs_cons (pg_name (i := 5) scAns.nd rfl (.inl rfl)) pgs_nil))))
        (pss_cons (ps_set (i := 6) scAns.nd rfl (Or.inl rfl) (pe_call GT (hr.mono lT) (by rfl) mT pT bT .nil pass0 (pa_cons (pv 1) (pa_cons (pv 3) (pa_cons (pv 4) (pa_cons (pv 5) pa_nil))))))
        (pss_cons (ps_expr (pe_bm PySem.F.plainAttrs_list PySem.F.slot_list_append PySem.F.type_list_append mt_append (pv 2) (pa_cons (pe_callB call_len_seq (by rfl) mLen PySem.boot_len (pa_cons (pv 6) pa_nil)) pa_nil)))
        (pss_one (ps_expr (pe_bm PySem.F.plainAttrs_list PySem.F.slot_list_extend PySem.F.type_list_extend mt_extend (pv 2) (pa_cons (pv 6) pa_nil)))))))
      (pss_one (ps_ret (pv 2))))), ?_⟩
    -- circle = Circle()
    intro c dx nc ndx nex
    refine ⟨c, dx, rfl, upd_same, fun H1 wl0 hC0 nw0 kp0 => ⟨rfl, ?_⟩⟩
    have s1 : Same H H1 := Same.made nc ndx kp0
    -- told = []
    refine ⟨Nat.zero_le _, fun g ng => ?_⟩
    have s2 := s1.trans (same_upd (o := .lst []) ng)
    have gH1 : H1 g = none := ng
    obtain ⟨dx0, hc1⟩ := (hC0 g).obj
    obtain ⟨vs0, hw1, _⟩ := (hC0 g).ex
    have cg : c ≠ g := ne_of_none hc1 ng
    have wg : wl0 ≠ g := ne_of_none hw1 ng
    have cw0 : c ≠ wl0 := (hC0 g).ne
    -- taken_apart(calls)
    refine ⟨_, rfl, a, ns, raw, rfl, s2.seq hA, hlen, e1, fun Hb p us sb np hp hul hpart => ?_⟩
    have pH1 : p ≠ c := fun z => by rw [z, upd_ne cg, hc1] at np; cases np
    have pg : p ≠ g := fun z => by rw [z, upd_same] at np; cases np
    have pw : p ≠ wl0 := fun z => by rw [z, upd_ne wg, hw1] at np; cases np
    have hgb : Hb g = some (.lst []) := sb _ _ upd_same
    refine ⟨p, rfl, ⟨_, SqL.of hp⟩, for_list (K := K) (a := p) (xs := us) (fun i σ H' => ∃ (x3 x4 x5 x6 : Option V) (st : Rc57.Abs) (wl : Addr) (told : List Int), σ = [some (.ref a), some (.ref c), some (.ref g), x3, x4, x5, x6] ∧
        CircAt C g H' c wl st ∧ (wl ≠ g ∧ ∀ b o, Hb b = some o → b ≠ c → b ≠ g → b ≠ wl0 → b ≠ wl) ∧ (∀ b o, Hb b = some o → b ≠ c → b ≠ g → b ≠ wl0 → H' b = some o) ∧ H' g = some (.lst (told.map V.int)) ∧
        PyRc57.answers ns = told ++ PyFlat.told (PyFlat.played Rc57Neutral.step st ((raw.drop i).map PyRc57.whole)))
      ⟨none, none, none, none, {}, wl0, [], rfl, ((hC0 g).same (same_upd ng)).same sb, ⟨wg, fun b o _ _ _ h => h⟩, fun b o e _ _ _ => e, hgb, e4⟩
      (fun i σ H' _ ⟨_, _, _, _, _, _, _, _, _, _, kp, _⟩ => SqL.of (kp p _ hp pH1 pg pw)) ?_ ?_⟩
    · rintro i y σ H' hi ⟨x3, x4, x5, x6, st, wl, told, rfl, hC, hwl, kp, hg, htold⟩
      have hil : i < raw.length := by
        have := (List.getElem?_eq_some_iff.mp hi).1
        omega
      have hcc : raw[i]? = some raw[i] := List.getElem?_eq_getElem hil
      generalize raw[i] = cc at hcc
      obtain ⟨t, r, rfl, ht, hrr, nt, nr⟩ := (hpart i y cc hi hcc).ex
      have hG : Good cc := e3 cc (List.mem_of_getElem? hcc)
      have tc : t ≠ c := fun z => by rw [z, upd_ne cg, hc1] at nt; cases nt
      have tg : t ≠ g := fun z => by rw [z, upd_same] at nt; cases nt
      have tw : t ≠ wl0 := fun z => by rw [z, upd_ne wg, hw1] at nt; cases nt
      have rc : r ≠ c := fun z => by rw [z, upd_ne cg, hc1] at nr; cases nr
      have rg : r ≠ g := fun z => by rw [z, upd_same] at nr; cases nr
      have rw0 : r ≠ wl0 := fun z => by rw [z, upd_ne wg, hw1] at nr; cases nr
      obtain ⟨wlg, hwl⟩ := hwl
      refine ⟨t, _, rfl, .inl (.inl (kp t _ ht tc tg tw)), rfl, _, _, rfl, _, _, rfl, _, _, rfl, rfl, ?_⟩
      refine ⟨_, rfl, _, rfl, _, rfl, _, rfl, c, wl, g, r, st, cc, rfl, hC, ⟨kp r _ hrr rc rg rw0, hG.row.1, hG.row.2⟩, rg, hG, fun H2 pa wl' hC2 hwl' kp2 npa hpa => ?_⟩
      have wlg' : wl' ≠ g := by
        rcases hwl' with z | z
        · rw [z]; exact wlg
        · intro e; rw [e, hg] at z; cases z
      have hg2 : H2 g = some (.lst (told.map V.int)) := kp2 _ _ hg cg.symm wlg.symm
      have gpa : g ≠ pa := fun e => by rw [← e, hg] at npa; cases npa
      -- the sizes
      rw [drop_at hcc, told_cons] at htold
      have hsize : told.length + 1 + (stepOf st cc).2.length ≤ 10000000 := by
        have := congrArg List.length htold
        rw [List.length_append, List.length_cons, List.length_append] at this
        omega
      refine ⟨.ref g, rfl, .inl ⟨rfl, _, SqL.of hg2⟩, _, rfl, pa, _, rfl, .inl (SqL.of hpa), g, _, _, rfl, rfl, hg2, ?_, ?_⟩
      · rw [List.length_map]
        exact Nat.lt_of_lt_of_le (show told.length < 10000001 by omega) (by decide)
      · refine ⟨.ref g, rfl, .inl ⟨rfl, _, SqL.of upd_same⟩, _, rfl, g, pa, _, _, rfl, rfl, upd_same, by rw [upd_ne gpa.symm]; exact hpa, ?_, ?_⟩
        · rw [List.length_append, List.length_map, List.length_map]
          exact Nat.le_trans (show told.length + 1 + (stepOf st cc).2.length ≤ 10000000 from hsize) (by decide)
        · refine ⟨_, _, _, _, (stepOf st cc).1, wl', told ++ [(((stepOf st cc).2.length : Nat) : Int)] ++ (stepOf st cc).2, rfl, ?_, ?_, fun b o e b1 b2 b3 => ?_, ?_, ?_⟩
          · rw [upd_upd]
            exact hC2.put cg wlg'
          · refine ⟨wlg', fun b o e b1 b2 b3 => ?_⟩
            rcases hwl' with z | z
            · rw [z]; exact hwl b o e b1 b2 b3
            · intro q
              rw [← q, kp b o e b1 b2 b3] at z
              cases z
          · rw [upd_ne b2, upd_ne b2]
            exact kp2 b o (kp b o e b1 b2 b3) b1 (hwl b o e b1 b2 b3)
          · rw [upd_same, List.map_append, List.map_append, List.length_map]
            rfl
          · rw [htold, List.append_assoc, List.append_assoc]
            rfl
    · rintro σ H' ⟨x3, x4, x5, x6, st, wl, told, rfl, hC, hwl, kp, hg, htold⟩
      refine ⟨_, rfl, q H' g ?_⟩
      rw [hg, htold, List.drop_eq_nil_of_le (by omega)]
      show some (HO.lst (told.map V.int)) = some (HO.lst ((told ++ []).map V.int))
      rw [List.append_nil]
end
end My
set_option Elab.async false
set_option maxRecDepth 100000
set_option maxHeartbeats 8000000
namespace My
open PySem PySem.Spec PyProof.Rows L2
abbrev sTo : Stmt := top 38
theorem scTo : FnScope ["circle", "number", "value", "row"] ["circle", "number", "value", "row"] (defScope sTo) := ⟨rfl, rfl, rfl, by decide +kernel, rfl, by decide +kernel, by decide +kernel⟩
theorem iteNe {i j : Int} {A B : Prop} (h : i ≠ j) (hb : B) : if decide (V.int i = V.int j) = true then A else B := by
  rw [if_neg]
  · exact hb
  · intro z
    have := of_decide_eq_true z
    injection this with e
    exact h e
theorem iteEq {i j : Int} {A B : Prop} (h : i = j) (ha : A) : if decide (V.int i = V.int j) = true then A else B := by
  rw [if_pos]
  · exact ha
  · subst h
    exact decide_eq_true rfl
theorem traded_len (n : Nat) (w : Rc57.Wishes) (g : List Nat) : (Rc57.traded n w g).length = n := by
  unfold Rc57.traded Rc57.giftOf
  rw [List.length_map, List.length_range]
theorem turns_len (n : Nat) (w : Rc57.Wishes) (g : List Nat) : (Rc57.turns n w g).length = n := by
  unfold Rc57.turns Rc57.giftOf
  rw [List.length_map, List.length_range]
theorem trade_link {s : Rc57.Abs} {row : List Int} {m : Int} : tradeDoes s row m = if Rc57.each s.n (natl row) = false then [-1] else writes 16 m (Rc57.traded s.n s.wishes (natl row)) := by
  unfold tradeDoes refusal writes
  rw [traded_len]
  by_cases c : Rc57.each s.n (nats row) = false
  · rw [if_pos c, if_pos (by decide), if_pos c]
  · rw [if_neg c, if_neg c]
    by_cases d : Rc57.roomOf 16 m < s.n
    · rw [if_pos d, if_pos (by decide), if_pos d]
    · rw [if_neg d, if_neg (by decide), if_neg d]
      rfl
theorem turns_link {s : Rc57.Abs} {row : List Int} {m : Int} : turnsDoes s row m = if Rc57.each s.n (natl row) = false then [-1] else writes 16 m (Rc57.turns s.n s.wishes (natl row)) := by
  unfold turnsDoes refusal writes
  rw [turns_len]
  by_cases c : Rc57.each s.n (nats row) = false
  · rw [if_pos c, if_pos (by decide), if_pos c]
  · rw [if_neg c, if_neg c]
    by_cases d : Rc57.roomOf 16 m < s.n
    · rw [if_pos d, if_pos (by decide), if_pos d]
    · rw [if_neg d, if_neg (by decide), if_neg d]
      rfl
section
variable {P : Program} {w : World} {K : PySem.W.Frag} {mg : Str → Option Value} {base : Heap} {C : Addr}
theorem ok_to {f f0 f1 f2 f3 f4 f5 f6 f7 f8 fS fK : Addr} {fd fd0 fd1 fd2 fd3 fd4 fd5 fd6 fd7 fd8 fdS fdK : FuncData} {k : Nat} (F : Fun K "answer_to" "answer_to" sTo f fd) (T : Txt K mg C)
    (GS : FnOk P w K mg base CX0 k fS fdS ["self"] (spSize C)) (mS : Meth K C "size" fS) (bS : Binds K fdS ["self"] [])
    (GK : FnOk P w K mg base CX0 k fK fdK ["self"] (spKnown C)) (mK : Meth K C "all_known" fK) (bK : Binds K fdK ["self"] [])
    (G0 : FnOk P w K mg base CX0 k f0 fd0 ["circle"] (spABegin C)) (m0 : mg "answer_begin" = some (.ref f0)) (p0 : PySem.W.keepIn K (.ref f0) = true) (b0 : Binds K fd0 ["circle"] [])
    (G1 : FnOk P w K mg base CX0 k f1 fd1 ["circle", "size"] (spAPeople C)) (m1 : mg "answer_people" = some (.ref f1)) (p1 : PySem.W.keepIn K (.ref f1) = true) (b1 : Binds K fd1 ["circle", "size"] [])
    (G2 : FnOk P w K mg base CX0 k f2 fd2 ["circle", "person", "things"] (spAWish C)) (m2 : mg "answer_wish" = some (.ref f2)) (p2 : PySem.W.keepIn K (.ref f2) = true) (b2 : Binds K fd2 ["circle", "person", "things"] [])
    (G3 : FnOk P w K mg base CX0 k f3 fd3 ["circle", "own", "most"] (spATrade C)) (m3 : mg "answer_trade" = some (.ref f3)) (p3 : PySem.W.keepIn K (.ref f3) = true) (b3 : Binds K fd3 ["circle", "own", "most"] [])
    (G4 : FnOk P w K mg base CX0 k f4 fd4 ["circle", "order", "most"] (spATurns C)) (m4 : mg "answer_turns" = some (.ref f4)) (p4 : PySem.W.keepIn K (.ref f4) = true) (b4 : Binds K fd4 ["circle", "order", "most"] [])
    (G5 : FnOk P w K mg base CX0 k f5 fd5 ["circle", "given"] (spAGood C)) (m5 : mg "answer_good" = some (.ref f5)) (p5 : PySem.W.keepIn K (.ref f5) = true) (b5 : Binds K fd5 ["circle", "given"] [])
    (G6 : FnOk P w K mg base CX0 k f6 fd6 ["circle", "given", "most"] (spAOrder C)) (m6 : mg "answer_order" = some (.ref f6)) (p6 : PySem.W.keepIn K (.ref f6) = true) (b6 : Binds K fd6 ["circle", "given", "most"] [])
    (G7 : FnOk P w K mg base CX0 k f7 fd7 ["circle", "both"] (spAGroup C)) (m7 : mg "answer_group" = some (.ref f7)) (p7 : PySem.W.keepIn K (.ref f7) = true) (b7 : Binds K fd7 ["circle", "both"] [])
    (G8 : FnOk P w K mg base CX0 k f8 fd8 ["circle", "most"] (spAEat C)) (m8 : mg "answer_eat" = some (.ref f8)) (p8 : PySem.W.keepIn K (.ref f8) = true) (b8 : Binds K fd8 ["circle", "most"] [])
    (n0 : Num mg "BEGIN" 0) (n1 : Num mg "PEOPLE" 1) (n2 : Num mg "WISH" 2) (n3 : Num mg "TRADE" 3) (n4 : Num mg "TURNS" 4) (n5 : Num mg "GOOD" 5) (n6 : Num mg "ORDER" 6) (n7 : Num mg "GROUP" 7) (nB : Num mg "NOBODY_THERE" (-4)) (nK : Num mg "NOT_KNOWN" (-3)) :
    FnOk P w K mg base CX0 (k + 1) f fd ["circle", "number", "value", "row"] (spTo C) := by
  refine F.ok scTo (fun vs H Q E h => ?_) (fun cdv A outer s H vs Q E hr h => ?_)
  · obtain ⟨_, _, _, _, _, _, rfl, _⟩ := h
    rfl
  · obtain ⟨c, wl, gd, r, st, cc, rfl, hC, hRow, hrg, hG, q⟩ := h
    obtain ⟨dx, hc⟩ := hC.obj
    refine ⟨_, pss_cons (ps_if (pt_cmpR op_eq (pv 1) (pe_num (by rfl) n0) (nomark _)) (pss_one (ps_ret (pe_call G0 hr (by rfl) m0 p0 b0 .nil pass0 (pa_cons (pv 0) pa_nil)))) pss_nil)
      (pss_cons (ps_if (pt_cmpR op_eq (pv 1) (pe_num (by rfl) n1) (nomark _)) (pss_one (ps_ret (pe_call G1 hr (by rfl) m1 p1 b1 .nil pass0 (pa_cons (pv 0) (pa_cons (pv 2) pa_nil))))) pss_nil)
      (pss_cons (ps_if (pt_cmpR op_eq (pe_meth0 (pv 0) T.cl mS GS hr bS .nil pass0) pe_int (nomark _)) (pss_one (ps_ret (pe_lst (pa_cons (pe_num (by rfl) nB) pa_nil)))) pss_nil)
      (pss_cons (ps_if (pt_cmpR op_eq (pv 1) (pe_num (by rfl) n2) (nomark _)) (pss_one (ps_ret (pe_call G2 hr (by rfl) m2 p2 b2 .nil pass0 (pa_cons (pv 0) (pa_cons (pv 2) (pa_cons (pv 3) pa_nil)))))) pss_nil)
      (pss_cons (ps_if (pt_not (pt_val (pe_meth0 (pv 0) T.cl mK GK hr bK .nil pass0))) (pss_one (ps_ret (pe_lst (pa_cons (pe_num (by rfl) nK) pa_nil)))) pss_nil)
      (pss_cons (ps_if (pt_cmpR op_eq (pv 1) (pe_num (by rfl) n3) (nomark _)) (pss_one (ps_ret (pe_call G3 hr (by rfl) m3 p3 b3 .nil pass0 (pa_cons (pv 0) (pa_cons (pv 3) (pa_cons (pv 2) pa_nil)))))) pss_nil)
      (pss_cons (ps_if (pt_cmpR op_eq (pv 1) (pe_num (by rfl) n4) (nomark _)) (pss_one (ps_ret (pe_call G4 hr (by rfl) m4 p4 b4 .nil pass0 (pa_cons (pv 0) (pa_cons (pv 3) (pa_cons (pv 2) pa_nil)))))) pss_nil)
      (pss_cons (ps_if (pt_cmpR op_eq (pv 1) (pe_num (by rfl) n5) (nomark _)) (pss_one (ps_ret (pe_call G5 hr (by rfl) m5 p5 b5 .nil pass0 (pa_cons (pv 0) (pa_cons (pv 3) pa_nil))))) pss_nil)
      (pss_cons (ps_if (pt_cmpR op_eq (pv 1) (pe_num (by rfl) n6) (nomark _)) (pss_one (ps_ret (pe_call G6 hr (by rfl) m6 p6 b6 .nil pass0 (pa_cons (pv 0) (pa_cons (pv 3) (pa_cons (pv 2) pa_nil)))))) pss_nil)
      (pss_cons (ps_if (pt_cmpR op_eq (pv 1) (pe_num (by rfl) n7) (nomark _)) (pss_one (ps_ret (pe_call G7 hr (by rfl) m7 p7 b7 .nil pass0 (pa_cons (pv 0) (pa_cons (pv 3) pa_nil))))) pss_nil)
      (pss_one (ps_ret (pe_call G8 hr (by rfl) m8 p8 b8 .nil pass0 (pa_cons (pv 0) (pa_cons (pv 2) pa_nil)))))))))))))), ?_⟩
    -- nobody there; not all known
    have nob : (∀ a, cc ≠ [[1, a]]) → cc ≠ [[0]] → st.n = 0 → ∀ H', H' = H → 1 ≤ sizeLine ∧ ∀ p, H' p = none → Q (.ref p) (upd H' p (.lst [V.int (-4)])) := fun h2 h1 hn H' e => by
      subst e
      rw [step_nobody hG h1 h2 hn] at q
      exact ⟨by decide, fun p np => q.same hC (same_upd np) np upd_same⟩
    have unk : (∀ a b, cc ≠ [[2, a], b]) → (∀ a, cc ≠ [[1, a]]) → cc ≠ [[0]] → st.n ≠ 0 → Rc57.all st = false → 1 ≤ sizeLine ∧ ∀ p, H p = none → Q (.ref p) (upd H p (.lst [V.int (-3)])) := fun h3 h2 h1 hn ha => by
      rw [step_unknown hG h1 h2 h3 hn ha] at q
      exact ⟨by decide, fun p np => q.same hC (same_upd np) np upd_same⟩
    refine ⟨_, rfl, rfl, _, rfl, ?_⟩
    cases hG with
    | begin =>
      refine iteEq rfl ⟨_, rfl, c, wl, gd, st, rfl, hC, q⟩
    | @people a ha =>
      refine iteNe (show (1 : Int) ≠ 0 by decide) ?_
      refine ⟨_, rfl, rfl, _, rfl, iteEq rfl ⟨_, rfl, _, rfl, c, wl, gd, st, a, rfl, hC, ha, ?_⟩⟩
      rw [step_people] at q
      exact q
    | @wish a b hb =>
      refine iteNe (show (2 : Int) ≠ 0 by decide) ?_
      refine ⟨_, rfl, rfl, _, rfl, iteNe (show (2 : Int) ≠ 1 by decide) ?_⟩
      refine ⟨_, rfl, c, dx, _, rfl, hc, cF_none wl (by decide), c, wl, gd, st, rfl, hC, rfl, _, rfl, ?_⟩
      by_cases hn : st.n = 0
      · refine iteEq (by rw [hn]; rfl) (nob (fun a z => by cases z) (fun z => by cases z) hn H rfl)
      · refine iteNe (by omega) ?_
        refine ⟨_, rfl, rfl, _, rfl, iteEq rfl ⟨_, rfl, _, rfl, _, rfl, c, wl, gd, r, st, a, b, rfl, hC, hRow, hrg, ?_⟩⟩
        rw [step_wish hn] at q
        exact q
    | @trade m b hb =>
      refine iteNe (show (3 : Int) ≠ 0 by decide) ?_
      refine ⟨_, rfl, rfl, _, rfl, iteNe (show (3 : Int) ≠ 1 by decide) ?_⟩
      refine ⟨_, rfl, c, dx, _, rfl, hc, cF_none wl (by decide), c, wl, gd, st, rfl, hC, rfl, _, rfl, ?_⟩
      by_cases hn : st.n = 0
      · refine iteEq (by rw [hn]; rfl) (nob (fun a z => by cases z) (fun z => by cases z) hn H rfl)
      · refine iteNe (by omega) ?_
        refine ⟨_, rfl, rfl, _, rfl, iteNe (show (3 : Int) ≠ 2 by decide) ?_⟩
        refine ⟨_, rfl, c, dx, _, rfl, hc, cF_none wl (by decide), c, wl, gd, st, rfl, hC, Nat.pos_of_ne_zero hn, _, rfl, ?_⟩
        cases ha : Rc57.all st with
        | false => exact iteT (unk (fun a b z => by cases z) (fun a z => by cases z) (fun z => by cases z) hn ha)
        | true =>
          refine iteF ?_
          refine ⟨_, rfl, rfl, _, rfl, iteEq rfl ?_⟩
          refine ⟨_, rfl, _, rfl, _, rfl, c, wl, gd, r, st, b, m, rfl, hC, hRow, Nat.pos_of_ne_zero hn, ha, ?_⟩
          rw [step_trade hn ha] at q
          rw [trade_link]
          exact q
    | @turns m b hb =>
      refine iteNe (show (4 : Int) ≠ 0 by decide) ?_
      refine ⟨_, rfl, rfl, _, rfl, iteNe (show (4 : Int) ≠ 1 by decide) ?_⟩
      refine ⟨_, rfl, c, dx, _, rfl, hc, cF_none wl (by decide), c, wl, gd, st, rfl, hC, rfl, _, rfl, ?_⟩
      by_cases hn : st.n = 0
      · refine iteEq (by rw [hn]; rfl) (nob (fun a z => by cases z) (fun z => by cases z) hn H rfl)
      · refine iteNe (by omega) ?_
        refine ⟨_, rfl, rfl, _, rfl, iteNe (show (4 : Int) ≠ 2 by decide) ?_⟩
        refine ⟨_, rfl, c, dx, _, rfl, hc, cF_none wl (by decide), c, wl, gd, st, rfl, hC, Nat.pos_of_ne_zero hn, _, rfl, ?_⟩
        cases ha : Rc57.all st with
        | false => exact iteT (unk (fun a b z => by cases z) (fun a z => by cases z) (fun z => by cases z) hn ha)
        | true =>
          refine iteF ?_
          refine ⟨_, rfl, rfl, _, rfl, iteNe (show (4 : Int) ≠ 3 by decide) ?_⟩
          refine ⟨_, rfl, rfl, _, rfl, iteEq rfl ?_⟩
          refine ⟨_, rfl, _, rfl, _, rfl, c, wl, gd, r, st, b, m, rfl, hC, hRow, Nat.pos_of_ne_zero hn, ha, ?_⟩
          rw [step_turns hn ha] at q
          rw [turns_link]
          exact q
    | @good b hb =>
      refine iteNe (show (5 : Int) ≠ 0 by decide) ?_
      refine ⟨_, rfl, rfl, _, rfl, iteNe (show (5 : Int) ≠ 1 by decide) ?_⟩
      refine ⟨_, rfl, c, dx, _, rfl, hc, cF_none wl (by decide), c, wl, gd, st, rfl, hC, rfl, _, rfl, ?_⟩
      by_cases hn : st.n = 0
      · refine iteEq (by rw [hn]; rfl) (nob (fun a z => by cases z) (fun z => by cases z) hn H rfl)
      · refine iteNe (by omega) ?_
        refine ⟨_, rfl, rfl, _, rfl, iteNe (show (5 : Int) ≠ 2 by decide) ?_⟩
        refine ⟨_, rfl, c, dx, _, rfl, hc, cF_none wl (by decide), c, wl, gd, st, rfl, hC, Nat.pos_of_ne_zero hn, _, rfl, ?_⟩
        cases ha : Rc57.all st with
        | false => exact iteT (unk (fun a b z => by cases z) (fun a z => by cases z) (fun z => by cases z) hn ha)
        | true =>
          refine iteF ?_
          refine ⟨_, rfl, rfl, _, rfl, iteNe (show (5 : Int) ≠ 3 by decide) ?_⟩
          refine ⟨_, rfl, rfl, _, rfl, iteNe (show (5 : Int) ≠ 4 by decide) ?_⟩
          refine ⟨_, rfl, rfl, _, rfl, iteEq rfl ?_⟩
          refine ⟨_, rfl, _, rfl, c, wl, gd, r, st, b, rfl, hC, hRow, Nat.pos_of_ne_zero hn, ha, ?_⟩
          rw [step_good hn ha] at q
          exact q
    | @order m b hb =>
      refine iteNe (show (6 : Int) ≠ 0 by decide) ?_
      refine ⟨_, rfl, rfl, _, rfl, iteNe (show (6 : Int) ≠ 1 by decide) ?_⟩
      refine ⟨_, rfl, c, dx, _, rfl, hc, cF_none wl (by decide), c, wl, gd, st, rfl, hC, rfl, _, rfl, ?_⟩
      by_cases hn : st.n = 0
      · refine iteEq (by rw [hn]; rfl) (nob (fun a z => by cases z) (fun z => by cases z) hn H rfl)
      · refine iteNe (by omega) ?_
        refine ⟨_, rfl, rfl, _, rfl, iteNe (show (6 : Int) ≠ 2 by decide) ?_⟩
        refine ⟨_, rfl, c, dx, _, rfl, hc, cF_none wl (by decide), c, wl, gd, st, rfl, hC, Nat.pos_of_ne_zero hn, _, rfl, ?_⟩
        cases ha : Rc57.all st with
        | false => exact iteT (unk (fun a b z => by cases z) (fun a z => by cases z) (fun z => by cases z) hn ha)
        | true =>
          refine iteF ?_
          refine ⟨_, rfl, rfl, _, rfl, iteNe (show (6 : Int) ≠ 3 by decide) ?_⟩
          refine ⟨_, rfl, rfl, _, rfl, iteNe (show (6 : Int) ≠ 4 by decide) ?_⟩
          refine ⟨_, rfl, rfl, _, rfl, iteNe (show (6 : Int) ≠ 5 by decide) ?_⟩
          refine ⟨_, rfl, rfl, _, rfl, iteEq rfl ?_⟩
          refine ⟨_, rfl, _, rfl, _, rfl, c, wl, gd, r, st, b, m, rfl, hC, hRow, Nat.pos_of_ne_zero hn, ha, ?_⟩
          rw [step_order hn ha] at q
          exact q
    | @group b hb =>
      refine iteNe (show (7 : Int) ≠ 0 by decide) ?_
      refine ⟨_, rfl, rfl, _, rfl, iteNe (show (7 : Int) ≠ 1 by decide) ?_⟩
      refine ⟨_, rfl, c, dx, _, rfl, hc, cF_none wl (by decide), c, wl, gd, st, rfl, hC, rfl, _, rfl, ?_⟩
      by_cases hn : st.n = 0
      · refine iteEq (by rw [hn]; rfl) (nob (fun a z => by cases z) (fun z => by cases z) hn H rfl)
      · refine iteNe (by omega) ?_
        refine ⟨_, rfl, rfl, _, rfl, iteNe (show (7 : Int) ≠ 2 by decide) ?_⟩
        refine ⟨_, rfl, c, dx, _, rfl, hc, cF_none wl (by decide), c, wl, gd, st, rfl, hC, Nat.pos_of_ne_zero hn, _, rfl, ?_⟩
        cases ha : Rc57.all st with
        | false => exact iteT (unk (fun a b z => by cases z) (fun a z => by cases z) (fun z => by cases z) hn ha)
        | true =>
          refine iteF ?_
          refine ⟨_, rfl, rfl, _, rfl, iteNe (show (7 : Int) ≠ 3 by decide) ?_⟩
          refine ⟨_, rfl, rfl, _, rfl, iteNe (show (7 : Int) ≠ 4 by decide) ?_⟩
          refine ⟨_, rfl, rfl, _, rfl, iteNe (show (7 : Int) ≠ 5 by decide) ?_⟩
          refine ⟨_, rfl, rfl, _, rfl, iteNe (show (7 : Int) ≠ 6 by decide) ?_⟩
          refine ⟨_, rfl, rfl, _, rfl, iteEq rfl ?_⟩
          refine ⟨_, rfl, _, rfl, c, wl, gd, r, st, b, rfl, hC, hRow, Nat.pos_of_ne_zero hn, ha, ?_⟩
          rw [step_group hn ha] at q
          exact q
    | @eat m =>
      refine iteNe (show (8 : Int) ≠ 0 by decide) ?_
      refine ⟨_, rfl, rfl, _, rfl, iteNe (show (8 : Int) ≠ 1 by decide) ?_⟩
      refine ⟨_, rfl, c, dx, _, rfl, hc, cF_none wl (by decide), c, wl, gd, st, rfl, hC, rfl, _, rfl, ?_⟩
      by_cases hn : st.n = 0
      · refine iteEq (by rw [hn]; rfl) (nob (fun a z => by cases z) (fun z => by cases z) hn H rfl)
      · refine iteNe (by omega) ?_
        refine ⟨_, rfl, rfl, _, rfl, iteNe (show (8 : Int) ≠ 2 by decide) ?_⟩
        refine ⟨_, rfl, c, dx, _, rfl, hc, cF_none wl (by decide), c, wl, gd, st, rfl, hC, Nat.pos_of_ne_zero hn, _, rfl, ?_⟩
        cases ha : Rc57.all st with
        | false => exact iteT (unk (fun a b z => by cases z) (fun a z => by cases z) (fun z => by cases z) hn ha)
        | true =>
          refine iteF ?_
          refine ⟨_, rfl, rfl, _, rfl, iteNe (show (8 : Int) ≠ 3 by decide) ?_⟩
          refine ⟨_, rfl, rfl, _, rfl, iteNe (show (8 : Int) ≠ 4 by decide) ?_⟩
          refine ⟨_, rfl, rfl, _, rfl, iteNe (show (8 : Int) ≠ 5 by decide) ?_⟩
          refine ⟨_, rfl, rfl, _, rfl, iteNe (show (8 : Int) ≠ 6 by decide) ?_⟩
          refine ⟨_, rfl, rfl, _, rfl, iteNe (show (8 : Int) ≠ 7 by decide) ?_⟩
          refine ⟨_, rfl, _, rfl, c, wl, gd, st, m, rfl, hC, Nat.pos_of_ne_zero hn, ha, ?_⟩
          rw [step_eat hn ha (by have := hC.most; omega)] at q
          exact q
end
end My
set_option Elab.async false
set_option maxRecDepth 100000
set_option maxHeartbeats 8000000
namespace My
open PySem PySem.Spec PyProof.Rows L2
theorem all_mk {P : Program} {w : World} {K : PySem.W.Frag} {h : Heap} {mg : Str → Option Value} {fa : Addr} (X : K.In h) (G : h.Ns mainGlobals mg) (hfa : mg "answers" = some (.ref fa))
    {C : Addr}
    {fEach : Addr} {odEach anEach : Option Addr} {slEach : Array (Option Value)} {ocEach kVEach dcEach pmEach cdEach ctEach : Value}
    {fDear : Addr} {odDear anDear : Option Addr} {slDear : Array (Option Value)} {ocDear kVDear dcDear pmDear cdDear ctDear : Value}
    {fTurns : Addr} {odTurns anTurns : Option Addr} {slTurns : Array (Option Value)} {ocTurns kVTurns dcTurns pmTurns cdTurns ctTurns : Value}
    {fFirst : Addr} {odFirst anFirst : Option Addr} {slFirst : Array (Option Value)} {ocFirst kVFirst dcFirst pmFirst cdFirst ctFirst : Value}
    {fGood : Addr} {odGood anGood : Option Addr} {slGood : Array (Option Value)} {ocGood kVGood dcGood pmGood cdGood ctGood : Value}
    {fOwn : Addr} {odOwn anOwn : Option Addr} {slOwn : Array (Option Value)} {ocOwn kVOwn dcOwn pmOwn cdOwn ctOwn : Value}
    {fRing : Addr} {odRing anRing : Option Addr} {slRing : Array (Option Value)} {ocRing kVRing dcRing pmRing cdRing ctRing : Value}
    {fTrade : Addr} {odTrade anTrade : Option Addr} {slTrade : Array (Option Value)} {ocTrade kVTrade dcTrade pmTrade cdTrade ctTrade : Value}
    {fGroup : Addr} {odGroup anGroup : Option Addr} {slGroup : Array (Option Value)} {ocGroup kVGroup dcGroup pmGroup cdGroup ctGroup : Value}
    {fSome : Addr} {odSome anSome : Option Addr} {slSome : Array (Option Value)} {ocSome kVSome dcSome pmSome cdSome ctSome : Value}
    {fLed : Addr} {odLed anLed : Option Addr} {slLed : Array (Option Value)} {ocLed kVLed dcLed pmLed cdLed ctLed : Value}
    {fShares : Addr} {odShares anShares : Option Addr} {slShares : Array (Option Value)} {ocShares kVShares dcShares pmShares cdShares ctShares : Value}
    {fParts : Addr} {odParts anParts : Option Addr} {slParts : Array (Option Value)} {ocParts kVParts dcParts pmParts cdParts ctParts : Value}
    {fGone : Addr} {odGone anGone : Option Addr} {slGone : Array (Option Value)} {ocGone kVGone dcGone pmGone cdGone ctGone : Value}
    {fLow : Addr} {odLow anLow : Option Addr} {slLow : Array (Option Value)} {ocLow kVLow dcLow pmLow cdLow ctLow : Value}
    {fAns : Addr} {odAns anAns : Option Addr} {slAns : Array (Option Value)} {ocAns kVAns dcAns pmAns cdAns ctAns : Value}
    {fApart : Addr} {odApart anApart : Option Addr} {slApart : Array (Option Value)} {ocApart kVApart dcApart pmApart cdApart ctApart : Value}
    {fTo : Addr} {odTo anTo : Option Addr} {slTo : Array (Option Value)} {ocTo kVTo dcTo pmTo cdTo ctTo : Value}
    {fABegin : Addr} {odABegin anABegin : Option Addr} {slABegin : Array (Option Value)} {ocABegin kVABegin dcABegin pmABegin cdABegin ctABegin : Value}
    {fAPeople : Addr} {odAPeople anAPeople : Option Addr} {slAPeople : Array (Option Value)} {ocAPeople kVAPeople dcAPeople pmAPeople cdAPeople ctAPeople : Value}
    {fAWish : Addr} {odAWish anAWish : Option Addr} {slAWish : Array (Option Value)} {ocAWish kVAWish dcAWish pmAWish cdAWish ctAWish : Value}
    {fATrade : Addr} {odATrade anATrade : Option Addr} {slATrade : Array (Option Value)} {ocATrade kVATrade dcATrade pmATrade cdATrade ctATrade : Value}
    {fATurns : Addr} {odATurns anATurns : Option Addr} {slATurns : Array (Option Value)} {ocATurns kVATurns dcATurns pmATurns cdATurns ctATurns : Value}
    {fAGood : Addr} {odAGood anAGood : Option Addr} {slAGood : Array (Option Value)} {ocAGood kVAGood dcAGood pmAGood cdAGood ctAGood : Value}
    {fAOrder : Addr} {odAOrder anAOrder : Option Addr} {slAOrder : Array (Option Value)} {ocAOrder kVAOrder dcAOrder pmAOrder cdAOrder ctAOrder : Value}
    {fAGroup : Addr} {odAGroup anAGroup : Option Addr} {slAGroup : Array (Option Value)} {ocAGroup kVAGroup dcAGroup pmAGroup cdAGroup ctAGroup : Value}
    {fAEat : Addr} {odAEat anAEat : Option Addr} {slAEat : Array (Option Value)} {ocAEat kVAEat dcAEat pmAEat cdAEat ctAEat : Value}
    {fRefusal : Addr} {odRefusal anRefusal : Option Addr} {slRefusal : Array (Option Value)} {ocRefusal kVRefusal dcRefusal pmRefusal cdRefusal ctRefusal : Value}
    {fRoom : Addr} {odRoom anRoom : Option Addr} {slRoom : Array (Option Value)} {ocRoom kVRoom dcRoom pmRoom cdRoom ctRoom : Value}
    {fInit : Addr} {odInit anInit : Option Addr} {slInit : Array (Option Value)} {ocInit kVInit dcInit pmInit cdInit ctInit : Value}
    {fGather : Addr} {odGather anGather : Option Addr} {slGather : Array (Option Value)} {ocGather kVGather dcGather pmGather cdGather ctGather : Value}
    {fSize : Addr} {odSize anSize : Option Addr} {slSize : Array (Option Value)} {ocSize kVSize dcSize pmSize cdSize ctSize : Value}
    {fKnown : Addr} {odKnown anKnown : Option Addr} {slKnown : Array (Option Value)} {ocKnown kVKnown dcKnown pmKnown cdKnown ctKnown : Value}
    {tBEGIN : Nat}
    {tPEOPLE : Nat}
    {tWISH : Nat}
    {tTRADE : Nat}
    {tTURNS : Nat}
    {tGOOD : Nat}
    {tORDER : Nat}
    {tGROUP : Nat}
    {tDONE : Nat}
    {tWRONG : Nat}
    {tNO : Nat}
    {tNOT : Nat}
    {tNOBODY : Nat}
    {tMOST : Nat}
    {tEATERS : Nat}
    {tNUMBERS : Nat}
    {gHV : Addr} {odHV : Option Addr} {slHV : Array (Option Value)} {nHV : Nat}
    {gHR : Addr} {odHR : Option Addr} {slHR : Array (Option Value)} {nHR : Nat}
    (aC : PySem.W.nsIn K mainGlobals "Circle" = some (some (.ref C)))
    (aEach : PySem.W.nsIn K mainGlobals "is_each_once" = some (some (.ref fEach))) (lEach : K.lookup fEach = some ⟨ocEach, odEach, .func (PySem.W.fnOf "is_each_once" "is_each_once" (defArgs sEach) (defBody sEach) (defScope sEach) .none kVEach dcEach pmEach anEach cdEach ctEach), slEach⟩) (cEach : PySem.W.codeIn K cdEach "is_each_once" = true) (kEach : PySem.W.keepIn K (.ref fEach) = true)
    (aDear : PySem.W.nsIn K mainGlobals "dearest" = some (some (.ref fDear))) (lDear : K.lookup fDear = some ⟨ocDear, odDear, .func (PySem.W.fnOf "dearest" "dearest" (defArgs sDear) (defBody sDear) (defScope sDear) .none kVDear dcDear pmDear anDear cdDear ctDear), slDear⟩) (cDear : PySem.W.codeIn K cdDear "dearest" = true) (kDear : PySem.W.keepIn K (.ref fDear) = true)
    (aTurns : PySem.W.nsIn K mainGlobals "taken_in_turn" = some (some (.ref fTurns))) (lTurns : K.lookup fTurns = some ⟨ocTurns, odTurns, .func (PySem.W.fnOf "taken_in_turn" "taken_in_turn" (defArgs sTurns) (defBody sTurns) (defScope sTurns) .none kVTurns dcTurns pmTurns anTurns cdTurns ctTurns), slTurns⟩) (cTurns : PySem.W.codeIn K cdTurns "taken_in_turn" = true) (kTurns : PySem.W.keepIn K (.ref fTurns) = true)
    (aFirst : PySem.W.nsIn K mainGlobals "first_order" = some (some (.ref fFirst))) (lFirst : K.lookup fFirst = some ⟨ocFirst, odFirst, .func (PySem.W.fnOf "first_order" "first_order" (defArgs sFirst) (defBody sFirst) (defScope sFirst) .none kVFirst dcFirst pmFirst anFirst cdFirst ctFirst), slFirst⟩) (cFirst : PySem.W.codeIn K cdFirst "first_order" = true) (kFirst : PySem.W.keepIn K (.ref fFirst) = true)
    (aGood : PySem.W.nsIn K mainGlobals "is_good" = some (some (.ref fGood))) (lGood : K.lookup fGood = some ⟨ocGood, odGood, .func (PySem.W.fnOf "is_good" "is_good" (defArgs sGood) (defBody sGood) (defScope sGood) .none kVGood dcGood pmGood anGood cdGood ctGood), slGood⟩) (cGood : PySem.W.codeIn K cdGood "is_good" = true) (kGood : PySem.W.keepIn K (.ref fGood) = true)
    (aOwn : PySem.W.nsIn K mainGlobals "owners_of" = some (some (.ref fOwn))) (lOwn : K.lookup fOwn = some ⟨ocOwn, odOwn, .func (PySem.W.fnOf "owners_of" "owners_of" (defArgs sOwners) (defBody sOwners) (defScope sOwners) .none kVOwn dcOwn pmOwn anOwn cdOwn ctOwn), slOwn⟩) (cOwn : PySem.W.codeIn K cdOwn "owners_of" = true) (kOwn : PySem.W.keepIn K (.ref fOwn) = true)
    (aRing : PySem.W.nsIn K mainGlobals "some_ring" = some (some (.ref fRing))) (lRing : K.lookup fRing = some ⟨ocRing, odRing, .func (PySem.W.fnOf "some_ring" "some_ring" (defArgs sRing) (defBody sRing) (defScope sRing) .none kVRing dcRing pmRing anRing cdRing ctRing), slRing⟩) (cRing : PySem.W.codeIn K cdRing "some_ring" = true) (kRing : PySem.W.keepIn K (.ref fRing) = true)
    (aTrade : PySem.W.nsIn K mainGlobals "exchanged_round" = some (some (.ref fTrade))) (lTrade : K.lookup fTrade = some ⟨ocTrade, odTrade, .func (PySem.W.fnOf "exchanged_round" "exchanged_round" (defArgs sTrade) (defBody sTrade) (defScope sTrade) .none kVTrade dcTrade pmTrade anTrade cdTrade ctTrade), slTrade⟩) (cTrade : PySem.W.codeIn K cdTrade "exchanged_round" = true) (kTrade : PySem.W.keepIn K (.ref fTrade) = true)
    (aGroup : PySem.W.nsIn K mainGlobals "least_group" = some (some (.ref fGroup))) (lGroup : K.lookup fGroup = some ⟨ocGroup, odGroup, .func (PySem.W.fnOf "least_group" "least_group" (defArgs sGroup) (defBody sGroup) (defScope sGroup) .none kVGroup dcGroup pmGroup anGroup cdGroup ctGroup), slGroup⟩) (cGroup : PySem.W.codeIn K cdGroup "least_group" = true) (kGroup : PySem.W.keepIn K (.ref fGroup) = true)
    (aSome : PySem.W.nsIn K mainGlobals "some_do_better" = some (some (.ref fSome))) (lSome : K.lookup fSome = some ⟨ocSome, odSome, .func (PySem.W.fnOf "some_do_better" "some_do_better" (defArgs sSome) (defBody sSome) (defScope sSome) .none kVSome dcSome pmSome anSome cdSome ctSome), slSome⟩) (cSome : PySem.W.codeIn K cdSome "some_do_better" = true) (kSome : PySem.W.keepIn K (.ref fSome) = true)
    (aLed : PySem.W.nsIn K mainGlobals "led_to" = some (some (.ref fLed))) (lLed : K.lookup fLed = some ⟨ocLed, odLed, .func (PySem.W.fnOf "led_to" "led_to" (defArgs sLed) (defBody sLed) (defScope sLed) .none kVLed dcLed pmLed anLed cdLed ctLed), slLed⟩) (cLed : PySem.W.codeIn K cdLed "led_to" = true) (kLed : PySem.W.keepIn K (.ref fLed) = true)
    (aShares : PySem.W.nsIn K mainGlobals "eaten_shares" = some (some (.ref fShares))) (lShares : K.lookup fShares = some ⟨ocShares, odShares, .func (PySem.W.fnOf "eaten_shares" "eaten_shares" (defArgs sShares) (defBody sShares) (defScope sShares) .none kVShares dcShares pmShares anShares cdShares ctShares), slShares⟩) (cShares : PySem.W.codeIn K cdShares "eaten_shares" = true) (kShares : PySem.W.keepIn K (.ref fShares) = true)
    (aParts : PySem.W.nsIn K mainGlobals "eaten_parts" = some (some (.ref fParts))) (lParts : K.lookup fParts = some ⟨ocParts, odParts, .func (PySem.W.fnOf "eaten_parts" "eaten_parts" (defArgs sParts) (defBody sParts) (defScope sParts) .none kVParts dcParts pmParts anParts cdParts ctParts), slParts⟩) (cParts : PySem.W.codeIn K cdParts "eaten_parts" = true) (kParts : PySem.W.keepIn K (.ref fParts) = true)
    (aGone : PySem.W.nsIn K mainGlobals "first_gone" = some (some (.ref fGone))) (lGone : K.lookup fGone = some ⟨ocGone, odGone, .func (PySem.W.fnOf "first_gone" "first_gone" (defArgs sGone) (defBody sGone) (defScope sGone) .none kVGone dcGone pmGone anGone cdGone ctGone), slGone⟩) (cGone : PySem.W.codeIn K cdGone "first_gone" = true) (kGone : PySem.W.keepIn K (.ref fGone) = true)
    (aLow : PySem.W.nsIn K mainGlobals "lowest_terms" = some (some (.ref fLow))) (lLow : K.lookup fLow = some ⟨ocLow, odLow, .func (PySem.W.fnOf "lowest_terms" "lowest_terms" (defArgs sLow) (defBody sLow) (defScope sLow) .none kVLow dcLow pmLow anLow cdLow ctLow), slLow⟩) (cLow : PySem.W.codeIn K cdLow "lowest_terms" = true) (kLow : PySem.W.keepIn K (.ref fLow) = true)
    (aAns : PySem.W.nsIn K mainGlobals "answers" = some (some (.ref fAns))) (lAns : K.lookup fAns = some ⟨ocAns, odAns, .func (PySem.W.fnOf "answers" "answers" (defArgs sAns) (defBody sAns) (defScope sAns) .none kVAns dcAns pmAns anAns cdAns ctAns), slAns⟩) (cAns : PySem.W.codeIn K cdAns "answers" = true) (kAns : PySem.W.keepIn K (.ref fAns) = true)
    (aApart : PySem.W.nsIn K mainGlobals "taken_apart" = some (some (.ref fApart))) (lApart : K.lookup fApart = some ⟨ocApart, odApart, .func (PySem.W.fnOf "taken_apart" "taken_apart" (defArgs sApart) (defBody sApart) (defScope sApart) .none kVApart dcApart pmApart anApart cdApart ctApart), slApart⟩) (cApart : PySem.W.codeIn K cdApart "taken_apart" = true) (kApart : PySem.W.keepIn K (.ref fApart) = true)
    (aTo : PySem.W.nsIn K mainGlobals "answer_to" = some (some (.ref fTo))) (lTo : K.lookup fTo = some ⟨ocTo, odTo, .func (PySem.W.fnOf "answer_to" "answer_to" (defArgs sTo) (defBody sTo) (defScope sTo) .none kVTo dcTo pmTo anTo cdTo ctTo), slTo⟩) (cTo : PySem.W.codeIn K cdTo "answer_to" = true) (kTo : PySem.W.keepIn K (.ref fTo) = true)
    (aABegin : PySem.W.nsIn K mainGlobals "answer_begin" = some (some (.ref fABegin))) (lABegin : K.lookup fABegin = some ⟨ocABegin, odABegin, .func (PySem.W.fnOf "answer_begin" "answer_begin" (defArgs sABegin) (defBody sABegin) (defScope sABegin) .none kVABegin dcABegin pmABegin anABegin cdABegin ctABegin), slABegin⟩) (cABegin : PySem.W.codeIn K cdABegin "answer_begin" = true) (kABegin : PySem.W.keepIn K (.ref fABegin) = true)
    (aAPeople : PySem.W.nsIn K mainGlobals "answer_people" = some (some (.ref fAPeople))) (lAPeople : K.lookup fAPeople = some ⟨ocAPeople, odAPeople, .func (PySem.W.fnOf "answer_people" "answer_people" (defArgs sAPeople) (defBody sAPeople) (defScope sAPeople) .none kVAPeople dcAPeople pmAPeople anAPeople cdAPeople ctAPeople), slAPeople⟩) (cAPeople : PySem.W.codeIn K cdAPeople "answer_people" = true) (kAPeople : PySem.W.keepIn K (.ref fAPeople) = true)
    (aAWish : PySem.W.nsIn K mainGlobals "answer_wish" = some (some (.ref fAWish))) (lAWish : K.lookup fAWish = some ⟨ocAWish, odAWish, .func (PySem.W.fnOf "answer_wish" "answer_wish" (defArgs sAWish) (defBody sAWish) (defScope sAWish) .none kVAWish dcAWish pmAWish anAWish cdAWish ctAWish), slAWish⟩) (cAWish : PySem.W.codeIn K cdAWish "answer_wish" = true) (kAWish : PySem.W.keepIn K (.ref fAWish) = true)
    (aATrade : PySem.W.nsIn K mainGlobals "answer_trade" = some (some (.ref fATrade))) (lATrade : K.lookup fATrade = some ⟨ocATrade, odATrade, .func (PySem.W.fnOf "answer_trade" "answer_trade" (defArgs sATrade) (defBody sATrade) (defScope sATrade) .none kVATrade dcATrade pmATrade anATrade cdATrade ctATrade), slATrade⟩) (cATrade : PySem.W.codeIn K cdATrade "answer_trade" = true) (kATrade : PySem.W.keepIn K (.ref fATrade) = true)
    (aATurns : PySem.W.nsIn K mainGlobals "answer_turns" = some (some (.ref fATurns))) (lATurns : K.lookup fATurns = some ⟨ocATurns, odATurns, .func (PySem.W.fnOf "answer_turns" "answer_turns" (defArgs sATurns) (defBody sATurns) (defScope sATurns) .none kVATurns dcATurns pmATurns anATurns cdATurns ctATurns), slATurns⟩) (cATurns : PySem.W.codeIn K cdATurns "answer_turns" = true) (kATurns : PySem.W.keepIn K (.ref fATurns) = true)
    (aAGood : PySem.W.nsIn K mainGlobals "answer_good" = some (some (.ref fAGood))) (lAGood : K.lookup fAGood = some ⟨ocAGood, odAGood, .func (PySem.W.fnOf "answer_good" "answer_good" (defArgs sAGood) (defBody sAGood) (defScope sAGood) .none kVAGood dcAGood pmAGood anAGood cdAGood ctAGood), slAGood⟩) (cAGood : PySem.W.codeIn K cdAGood "answer_good" = true) (kAGood : PySem.W.keepIn K (.ref fAGood) = true)
    (aAOrder : PySem.W.nsIn K mainGlobals "answer_order" = some (some (.ref fAOrder))) (lAOrder : K.lookup fAOrder = some ⟨ocAOrder, odAOrder, .func (PySem.W.fnOf "answer_order" "answer_order" (defArgs sAOrder) (defBody sAOrder) (defScope sAOrder) .none kVAOrder dcAOrder pmAOrder anAOrder cdAOrder ctAOrder), slAOrder⟩) (cAOrder : PySem.W.codeIn K cdAOrder "answer_order" = true) (kAOrder : PySem.W.keepIn K (.ref fAOrder) = true)
    (aAGroup : PySem.W.nsIn K mainGlobals "answer_group" = some (some (.ref fAGroup))) (lAGroup : K.lookup fAGroup = some ⟨ocAGroup, odAGroup, .func (PySem.W.fnOf "answer_group" "answer_group" (defArgs sAGroup) (defBody sAGroup) (defScope sAGroup) .none kVAGroup dcAGroup pmAGroup anAGroup cdAGroup ctAGroup), slAGroup⟩) (cAGroup : PySem.W.codeIn K cdAGroup "answer_group" = true) (kAGroup : PySem.W.keepIn K (.ref fAGroup) = true)
    (aAEat : PySem.W.nsIn K mainGlobals "answer_eat" = some (some (.ref fAEat))) (lAEat : K.lookup fAEat = some ⟨ocAEat, odAEat, .func (PySem.W.fnOf "answer_eat" "answer_eat" (defArgs sAEat) (defBody sAEat) (defScope sAEat) .none kVAEat dcAEat pmAEat anAEat cdAEat ctAEat), slAEat⟩) (cAEat : PySem.W.codeIn K cdAEat "answer_eat" = true) (kAEat : PySem.W.keepIn K (.ref fAEat) = true)
    (aRefusal : PySem.W.nsIn K mainGlobals "refusal_of" = some (some (.ref fRefusal))) (lRefusal : K.lookup fRefusal = some ⟨ocRefusal, odRefusal, .func (PySem.W.fnOf "refusal_of" "refusal_of" (defArgs sRefusal) (defBody sRefusal) (defScope sRefusal) .none kVRefusal dcRefusal pmRefusal anRefusal cdRefusal ctRefusal), slRefusal⟩) (cRefusal : PySem.W.codeIn K cdRefusal "refusal_of" = true) (kRefusal : PySem.W.keepIn K (.ref fRefusal) = true)
    (aRoom : PySem.W.nsIn K mainGlobals "room_within" = some (some (.ref fRoom))) (lRoom : K.lookup fRoom = some ⟨ocRoom, odRoom, .func (PySem.W.fnOf "room_within" "room_within" (defArgs sRoom) (defBody sRoom) (defScope sRoom) .none kVRoom dcRoom pmRoom anRoom cdRoom ctRoom), slRoom⟩) (cRoom : PySem.W.codeIn K cdRoom "room_within" = true) (kRoom : PySem.W.keepIn K (.ref fRoom) = true)
    (aInit : PySem.W.findIn K (.ref C) "__init__" = some (some (.ref fInit))) (iInit : PySem.W.isFn K (.ref fInit) = true) (lInit : K.lookup fInit = some ⟨ocInit, odInit, .func (PySem.W.fnOf "__init__" "Circle.__init__" (defArgs sInit) (defBody sInit) (defScope sInit) .none kVInit dcInit pmInit anInit cdInit ctInit), slInit⟩) (cInit : PySem.W.codeIn K cdInit "Circle.__init__" = true) (kInit : PySem.W.keepIn K (.ref fInit) = true)
    (aGather : PySem.W.findIn K (.ref C) "gather" = some (some (.ref fGather))) (iGather : PySem.W.isFn K (.ref fGather) = true) (lGather : K.lookup fGather = some ⟨ocGather, odGather, .func (PySem.W.fnOf "gather" "Circle.gather" (defArgs sGather) (defBody sGather) (defScope sGather) .none kVGather dcGather pmGather anGather cdGather ctGather), slGather⟩) (cGather : PySem.W.codeIn K cdGather "Circle.gather" = true) (kGather : PySem.W.keepIn K (.ref fGather) = true)
    (aSize : PySem.W.findIn K (.ref C) "size" = some (some (.ref fSize))) (iSize : PySem.W.isFn K (.ref fSize) = true) (lSize : K.lookup fSize = some ⟨ocSize, odSize, .func (PySem.W.fnOf "size" "Circle.size" (defArgs sSize) (defBody sSize) (defScope sSize) .none kVSize dcSize pmSize anSize cdSize ctSize), slSize⟩) (cSize : PySem.W.codeIn K cdSize "Circle.size" = true) (kSize : PySem.W.keepIn K (.ref fSize) = true)
    (aKnown : PySem.W.findIn K (.ref C) "all_known" = some (some (.ref fKnown))) (iKnown : PySem.W.isFn K (.ref fKnown) = true) (lKnown : K.lookup fKnown = some ⟨ocKnown, odKnown, .func (PySem.W.fnOf "all_known" "Circle.all_known" (defArgs sKnown) (defBody sKnown) (defScope sKnown) .none kVKnown dcKnown pmKnown anKnown cdKnown ctKnown), slKnown⟩) (cKnown : PySem.W.codeIn K cdKnown "Circle.all_known" = true) (kKnown : PySem.W.keepIn K (.ref fKnown) = true)
    (zBEGIN : PySem.W.nsIn K mainGlobals "BEGIN" = some (some (.int 0 tBEGIN)))
    (zPEOPLE : PySem.W.nsIn K mainGlobals "PEOPLE" = some (some (.int 1 tPEOPLE)))
    (zWISH : PySem.W.nsIn K mainGlobals "WISH" = some (some (.int 2 tWISH)))
    (zTRADE : PySem.W.nsIn K mainGlobals "TRADE" = some (some (.int 3 tTRADE)))
    (zTURNS : PySem.W.nsIn K mainGlobals "TURNS" = some (some (.int 4 tTURNS)))
    (zGOOD : PySem.W.nsIn K mainGlobals "GOOD" = some (some (.int 5 tGOOD)))
    (zORDER : PySem.W.nsIn K mainGlobals "ORDER" = some (some (.int 6 tORDER)))
    (zGROUP : PySem.W.nsIn K mainGlobals "GROUP" = some (some (.int 7 tGROUP)))
    (zDONE : PySem.W.nsIn K mainGlobals "DONE" = some (some (.int 0 tDONE)))
    (zWRONG : PySem.W.nsIn K mainGlobals "WRONG" = some (some (.int (-1) tWRONG)))
    (zNO : PySem.W.nsIn K mainGlobals "NO_ROOM" = some (some (.int (-2) tNO)))
    (zNOT : PySem.W.nsIn K mainGlobals "NOT_KNOWN" = some (some (.int (-3) tNOT)))
    (zNOBODY : PySem.W.nsIn K mainGlobals "NOBODY_THERE" = some (some (.int (-4) tNOBODY)))
    (zMOST : PySem.W.nsIn K mainGlobals "MOST_PEOPLE" = some (some (.int 16 tMOST)))
    (zEATERS : PySem.W.nsIn K mainGlobals "MOST_EATERS" = some (some (.int 8 tEATERS)))
    (zNUMBERS : PySem.W.nsIn K mainGlobals "MOST_SHARE_NUMBERS" = some (some (.int 128 tNUMBERS)))
    (aHV : PySem.W.nsIn K mainGlobals "HAS_VALUE" = some (some (.ref gHV))) (lHV : K.lookup gHV = some ⟨.type "tuple", odHV, .seq #[.bool false, .bool true, .bool true, .bool true, .bool true, .bool false, .bool true, .bool false, .bool true] nHV, slHV⟩)
    (aHR : PySem.W.nsIn K mainGlobals "HAS_ROW" = some (some (.ref gHR))) (lHR : K.lookup gHR = some ⟨.type "tuple", odHR, .seq #[.bool false, .bool false, .bool true, .bool true, .bool true, .bool true, .bool true, .bool true, .bool false] nHR, slHR⟩)
    (bLen : PySem.W.nsIn K mainGlobals "len" = some none)
    (bSorted : PySem.W.nsIn K mainGlobals "sorted" = some none)
    (bList : PySem.W.nsIn K mainGlobals "list" = some none)
    (bRange : PySem.W.nsIn K mainGlobals "range" = some none)
    (bAny : PySem.W.nsIn K mainGlobals "any" = some none)
    (bEnum : PySem.W.nsIn K mainGlobals "enumerate" = some none)
    (bZip : PySem.W.nsIn K mainGlobals "zip" = some none)
    (bSum : PySem.W.nsIn K mainGlobals "sum" = some none)
    (bMax : PySem.W.nsIn K mainGlobals "max" = some none)
    (pg : PySem.W.plainGet K C Str.empty = true) (hd : PySem.W.hasDictIn K C = true) (po : PySem.W.plainOver K C = true) (sa : PySem.W.findIn K (.ref C) "__setattr__" = some (some (.builtin "object.__setattr__"))) (mk : PySem.W.makesIn K C = true) (kc : PySem.W.keepIn K (.ref C) = true) (nW : PySem.W.findIn K (.ref C) "wishes" = some none)
    : ∃ fd : FuncData, (∀ (s : Shared) (us : List Value), us.length = (["calls"] : List Str).length → BindsTo s fd ⟨us, []⟩ ((["calls"] : List Str).zip us)) ∧ ∀ base : Heap, K.In base → base.Ns mainGlobals mg → FnOk P w K mg base CX0 6 fa fd ["calls"] (spAns K) := by
  have e := hfa.symm.trans (PySem.W.mg_of X G aAns)
  cases e
  have T : Txt K mg C := ⟨⟨pg, hd, po, sa⟩, nW⟩
  have FEach := fun_mk (st := sEach) lEach cEach kEach
  have mEach := PySem.W.mg_of X G aEach
  have b_Each := FEach.binds (ps := ["numbers", "size"]) fun _ _ _ _ _ _ us hl => match us, hl with | [_, _], _ => rfl
  have FDear := fun_mk (st := sDear) lDear cDear kDear
  have mDear := PySem.W.mg_of X G aDear
  have b_Dear := FDear.binds (ps := ["things", "left"]) fun _ _ _ _ _ _ us hl => match us, hl with | [_, _], _ => rfl
  have FTurns := fun_mk (st := sTurns) lTurns cTurns kTurns
  have mTurns := PySem.W.mg_of X G aTurns
  have b_Turns := FTurns.binds (ps := ["wishes", "order"]) fun _ _ _ _ _ _ us hl => match us, hl with | [_, _], _ => rfl
  have FFirst := fun_mk (st := sFirst) lFirst cFirst kFirst
  have mFirst := PySem.W.mg_of X G aFirst
  have b_First := FFirst.binds (ps := ["wishes", "given"]) fun _ _ _ _ _ _ us hl => match us, hl with | [_, _], _ => rfl
  have FGood := fun_mk (st := sGood) lGood cGood kGood
  have mGood := PySem.W.mg_of X G aGood
  have b_Good := FGood.binds (ps := ["wishes", "given"]) fun _ _ _ _ _ _ us hl => match us, hl with | [_, _], _ => rfl
  have FOwn := fun_mk (st := sOwners) lOwn cOwn kOwn
  have mOwn := PySem.W.mg_of X G aOwn
  have b_Own := FOwn.binds (ps := ["own"]) fun _ _ _ _ _ _ us hl => match us, hl with | [_], _ => rfl
  have FRing := fun_mk (st := sRing) lRing cRing kRing
  have mRing := PySem.W.mg_of X G aRing
  have b_Ring := FRing.binds (ps := ["wishes", "owners", "left"]) fun _ _ _ _ _ _ us hl => match us, hl with | [_, _, _], _ => rfl
  have FTrade := fun_mk (st := sTrade) lTrade cTrade kTrade
  have mTrade := PySem.W.mg_of X G aTrade
  have b_Trade := FTrade.binds (ps := ["wishes", "own"]) fun _ _ _ _ _ _ us hl => match us, hl with | [_, _], _ => rfl
  have FGroup := fun_mk (st := sGroup) lGroup cGroup kGroup
  have mGroup := PySem.W.mg_of X G aGroup
  have b_Group := FGroup.binds (ps := ["wishes", "own", "given"]) fun _ _ _ _ _ _ us hl => match us, hl with | [_, _, _], _ => rfl
  have FSome := fun_mk (st := sSome) lSome cSome kSome
  have mSome := PySem.W.mg_of X G aSome
  have b_Some := FSome.binds (ps := ["looks", "there"]) fun _ _ _ _ _ _ us hl => match us, hl with | [_, _], _ => rfl
  have FLed := fun_mk (st := sLed) lLed cLed kLed
  have mLed := PySem.W.mg_of X G aLed
  have b_Led := FLed.binds (ps := ["looks", "start", "there"]) fun _ _ _ _ _ _ us hl => match us, hl with | [_, _, _], _ => rfl
  have FShares := fun_mk (st := sShares) lShares cShares kShares
  have mShares := PySem.W.mg_of X G aShares
  have b_Shares := FShares.binds (ps := ["wishes"]) fun _ _ _ _ _ _ us hl => match us, hl with | [_], _ => rfl
  have FParts := fun_mk (st := sParts) lParts cParts kParts
  have mParts := PySem.W.mg_of X G aParts
  have b_Parts := FParts.binds (ps := ["wishes"]) fun _ _ _ _ _ _ us hl => match us, hl with | [_], _ => rfl
  have FGone := fun_mk (st := sGone) lGone cGone kGone
  have mGone := PySem.W.mg_of X G aGone
  have b_Gone := FGone.binds (ps := ["left", "eaters"]) fun _ _ _ _ _ _ us hl => match us, hl with | [_, _], _ => rfl
  have FLow := fun_mk (st := sLow) lLow cLow kLow
  have mLow := PySem.W.mg_of X G aLow
  have b_Low := FLow.binds (ps := ["parts", "whole"]) fun _ _ _ _ _ _ us hl => match us, hl with | [_, _], _ => rfl
  have FAns := fun_mk (st := sAns) lAns cAns kAns
  have mAns := PySem.W.mg_of X G aAns
  have b_Ans := FAns.binds (ps := ["calls"]) fun _ _ _ _ _ _ us hl => match us, hl with | [_], _ => rfl
  have FApart := fun_mk (st := sApart) lApart cApart kApart
  have mApart := PySem.W.mg_of X G aApart
  have b_Apart := FApart.binds (ps := ["calls"]) fun _ _ _ _ _ _ us hl => match us, hl with | [_], _ => rfl
  have FTo := fun_mk (st := sTo) lTo cTo kTo
  have mTo := PySem.W.mg_of X G aTo
  have b_To := FTo.binds (ps := ["circle", "number", "value", "row"]) fun _ _ _ _ _ _ us hl => match us, hl with | [_, _, _, _], _ => rfl
  have FABegin := fun_mk (st := sABegin) lABegin cABegin kABegin
  have mABegin := PySem.W.mg_of X G aABegin
  have b_ABegin := FABegin.binds (ps := ["circle"]) fun _ _ _ _ _ _ us hl => match us, hl with | [_], _ => rfl
  have FAPeople := fun_mk (st := sAPeople) lAPeople cAPeople kAPeople
  have mAPeople := PySem.W.mg_of X G aAPeople
  have b_APeople := FAPeople.binds (ps := ["circle", "size"]) fun _ _ _ _ _ _ us hl => match us, hl with | [_, _], _ => rfl
  have FAWish := fun_mk (st := sAWish) lAWish cAWish kAWish
  have mAWish := PySem.W.mg_of X G aAWish
  have b_AWish := FAWish.binds (ps := ["circle", "person", "things"]) fun _ _ _ _ _ _ us hl => match us, hl with | [_, _, _], _ => rfl
  have FATrade := fun_mk (st := sATrade) lATrade cATrade kATrade
  have mATrade := PySem.W.mg_of X G aATrade
  have b_ATrade := FATrade.binds (ps := ["circle", "own", "most"]) fun _ _ _ _ _ _ us hl => match us, hl with | [_, _, _], _ => rfl
  have FATurns := fun_mk (st := sATurns) lATurns cATurns kATurns
  have mATurns := PySem.W.mg_of X G aATurns
  have b_ATurns := FATurns.binds (ps := ["circle", "order", "most"]) fun _ _ _ _ _ _ us hl => match us, hl with | [_, _, _], _ => rfl
  have FAGood := fun_mk (st := sAGood) lAGood cAGood kAGood
  have mAGood := PySem.W.mg_of X G aAGood
  have b_AGood := FAGood.binds (ps := ["circle", "given"]) fun _ _ _ _ _ _ us hl => match us, hl with | [_, _], _ => rfl
  have FAOrder := fun_mk (st := sAOrder) lAOrder cAOrder kAOrder
  have mAOrder := PySem.W.mg_of X G aAOrder
  have b_AOrder := FAOrder.binds (ps := ["circle", "given", "most"]) fun _ _ _ _ _ _ us hl => match us, hl with | [_, _, _], _ => rfl
  have FAGroup := fun_mk (st := sAGroup) lAGroup cAGroup kAGroup
  have mAGroup := PySem.W.mg_of X G aAGroup
  have b_AGroup := FAGroup.binds (ps := ["circle", "both"]) fun _ _ _ _ _ _ us hl => match us, hl with | [_, _], _ => rfl
  have FAEat := fun_mk (st := sAEat) lAEat cAEat kAEat
  have mAEat := PySem.W.mg_of X G aAEat
  have b_AEat := FAEat.binds (ps := ["circle", "most"]) fun _ _ _ _ _ _ us hl => match us, hl with | [_, _], _ => rfl
  have FRefusal := fun_mk (st := sRefusal) lRefusal cRefusal kRefusal
  have mRefusal := PySem.W.mg_of X G aRefusal
  have b_Refusal := FRefusal.binds (ps := ["circle", "row", "most"]) fun _ _ _ _ _ _ us hl => match us, hl with | [_, _, _], _ => rfl
  have FRoom := fun_mk (st := sRoom) lRoom cRoom kRoom
  have mRoom := PySem.W.mg_of X G aRoom
  have b_Room := FRoom.binds (ps := ["most", "highest"]) fun _ _ _ _ _ _ us hl => match us, hl with | [_, _], _ => rfl
  have FInit := fun_mk (st := sInit) lInit cInit kInit
  have mInit : Meth K C "__init__" fInit := ⟨aInit, iInit, kInit⟩
  have b_Init := FInit.binds (ps := ["self"]) fun _ _ _ _ _ _ us hl => match us, hl with | [_], _ => rfl
  have FGather := fun_mk (st := sGather) lGather cGather kGather
  have mGather : Meth K C "gather" fGather := ⟨aGather, iGather, kGather⟩
  have b_Gather := FGather.binds (ps := ["self", "size"]) fun _ _ _ _ _ _ us hl => match us, hl with | [_, _], _ => rfl
  have FSize := fun_mk (st := sSize) lSize cSize kSize
  have mSize : Meth K C "size" fSize := ⟨aSize, iSize, kSize⟩
  have b_Size := FSize.binds (ps := ["self"]) fun _ _ _ _ _ _ us hl => match us, hl with | [_], _ => rfl
  have FKnown := fun_mk (st := sKnown) lKnown cKnown kKnown
  have mKnown : Meth K C "all_known" fKnown := ⟨aKnown, iKnown, kKnown⟩
  have b_Known := FKnown.binds (ps := ["self"]) fun _ _ _ _ _ _ us hl => match us, hl with | [_], _ => rfl
  have nBEGIN : Num mg "BEGIN" 0 := ⟨_, PySem.W.mg_of X G zBEGIN⟩
  have nPEOPLE : Num mg "PEOPLE" 1 := ⟨_, PySem.W.mg_of X G zPEOPLE⟩
  have nWISH : Num mg "WISH" 2 := ⟨_, PySem.W.mg_of X G zWISH⟩
  have nTRADE : Num mg "TRADE" 3 := ⟨_, PySem.W.mg_of X G zTRADE⟩
  have nTURNS : Num mg "TURNS" 4 := ⟨_, PySem.W.mg_of X G zTURNS⟩
  have nGOOD : Num mg "GOOD" 5 := ⟨_, PySem.W.mg_of X G zGOOD⟩
  have nORDER : Num mg "ORDER" 6 := ⟨_, PySem.W.mg_of X G zORDER⟩
  have nGROUP : Num mg "GROUP" 7 := ⟨_, PySem.W.mg_of X G zGROUP⟩
  have nDONE : Num mg "DONE" 0 := ⟨_, PySem.W.mg_of X G zDONE⟩
  have nWRONG : Num mg "WRONG" (-1) := ⟨_, PySem.W.mg_of X G zWRONG⟩
  have nNO : Num mg "NO_ROOM" (-2) := ⟨_, PySem.W.mg_of X G zNO⟩
  have nNOT : Num mg "NOT_KNOWN" (-3) := ⟨_, PySem.W.mg_of X G zNOT⟩
  have nNOBODY : Num mg "NOBODY_THERE" (-4) := ⟨_, PySem.W.mg_of X G zNOBODY⟩
  have nMOST : Num mg "MOST_PEOPLE" 16 := ⟨_, PySem.W.mg_of X G zMOST⟩
  have nEATERS : Num mg "MOST_EATERS" 8 := ⟨_, PySem.W.mg_of X G zEATERS⟩
  have nNUMBERS : Num mg "MOST_SHARE_NUMBERS" 128 := ⟨_, PySem.W.mg_of X G zNUMBERS⟩
  have mHV := PySem.W.mg_of X G aHV
  have tuHV : TupK K gHV (bv [false, true, true, true, true, false, true, false, true]) := ⟨_, _, _, lHV, rfl, rfl, by decide, (.cons rfl (.cons rfl (.cons rfl (.cons rfl (.cons rfl (.cons rfl (.cons rfl (.cons rfl (.cons rfl .nil)))))))))⟩
  have mHR := PySem.W.mg_of X G aHR
  have tuHR : TupK K gHR (bv [false, false, true, true, true, true, true, true, false]) := ⟨_, _, _, lHR, rfl, rfl, by decide, (.cons rfl (.cons rfl (.cons rfl (.cons rfl (.cons rfl (.cons rfl (.cons rfl (.cons rfl (.cons rfl .nil)))))))))⟩
  have qLen := PySem.W.mg_none_of X G bLen
  have qSorted := PySem.W.mg_none_of X G bSorted
  have qList := PySem.W.mg_none_of X G bList
  have qRange := PySem.W.mg_none_of X G bRange
  have qAny := PySem.W.mg_none_of X G bAny
  have qEnum := PySem.W.mg_none_of X G bEnum
  have qZip := PySem.W.mg_none_of X G bZip
  have qSum := PySem.W.mg_none_of X G bSum
  have qMax := PySem.W.mg_none_of X G bMax
  have GEach : ∀ (base : Heap) (k : Nat), FnOk P w K mg base CX0 (k + 1) fEach _ ["numbers", "size"] (spEach K) := fun base k => ok_each FEach qSorted qList qRange
  have GDear : ∀ (base : Heap) (k : Nat), FnOk P w K mg base CX0 (k + 1) fDear _ ["things", "left"] (spDear K) := fun base k => ok_dear FDear
  have GSize : ∀ (base : Heap) (k : Nat), FnOk P w K mg base CX0 (k + 1) fSize _ ["self"] (spSize C) := fun base k => ok_size FSize T qLen
  have GGather : ∀ (base : Heap) (k : Nat), FnOk P w K mg base CX0 (k + 1) fGather _ ["self", "size"] (spGather C) := fun base k => ok_gather FGather T
  have GTurns : ∀ (base : Heap) (k : Nat), FnOk P w K mg base CX0 (k + 2) fTurns _ ["wishes", "order"] (spTurns K) := fun base k => ok_turns FTurns qLen (GDear base k) mDear FDear.kp b_Dear
  have GOwn : ∀ (base : Heap) (k : Nat), FnOk P w K mg base CX0 (k + 1) fOwn _ ["own"] (spOwners K) := fun base k => ok_owners FOwn qLen qEnum
  have GRing : ∀ (base : Heap) (k : Nat), FnOk P w K mg base CX0 (k + 2) fRing _ ["wishes", "owners", "left"] (spRing K) := fun base k => ok_ring FRing (GDear base k) mDear FDear.kp b_Dear
  have GTrade : ∀ (base : Heap) (k : Nat), FnOk P w K mg base CX0 (k + 3) fTrade _ ["wishes", "own"] (spTrade K) := fun base k => ok_trade FTrade qLen qAny (GDear base k) mDear FDear.kp b_Dear (by omega) (GRing base k) mRing FRing.kp b_Ring (by omega) (GOwn base k) mOwn FOwn.kp b_Own (by omega)
  have GRoom : ∀ (base : Heap) (k : Nat), FnOk P w K mg base CX0 (k + 1) fRoom _ ["most", "highest"] spRoom := fun base k => ok_room FRoom
  have GRefusal : ∀ (base : Heap) (k : Nat), FnOk P w K mg base CX0 (k + 2) fRefusal _ ["circle", "row", "most"] (spRefusal C) := fun base k => ok_refusal FRefusal T (GEach base k) mEach FEach.kp b_Each (GRoom base k) mRoom FRoom.kp b_Room (GSize base k) mSize b_Size nWRONG nNO nMOST
  have GATrade : ∀ (base : Heap), FnOk P w K mg base CX0 4 fATrade _ ["circle", "own", "most"] (spATrade C) := fun base => ok_atrade FATrade T (GRefusal base 1) mRefusal FRefusal.kp b_Refusal (GSize base 2) mSize b_Size (GTrade base 0) mTrade FTrade.kp b_Trade
  have GATurns : ∀ (base : Heap), FnOk P w K mg base CX0 4 fATurns _ ["circle", "order", "most"] (spATurns C) := fun base => ok_aturns FATurns T (GRefusal base 1) mRefusal FRefusal.kp b_Refusal (GSize base 2) mSize b_Size (GTurns base 1) mTurns FTurns.kp b_Turns
  have GDearN : ∀ (base : Heap) (k : Nat), FnOk P w K mg base CX0 (k + 1) fDear _ ["things", "left"] (spDearN K) := fun base k => ok_dearN FDear
  have GKnown : ∀ (base : Heap) (k : Nat), FnOk P w K mg base CX0 (k + 1) fKnown _ ["self"] (spKnown C) := fun base k => ok_known FKnown T
  have GFirst : ∀ (base : Heap) (k : Nat), FnOk P w K mg base CX0 (k + 2) fFirst _ ["wishes", "given"] (spFirst K) := fun base k => ok_first FFirst qLen qEnum (GDear base k) mDear FDear.kp b_Dear
  have GGood : ∀ (base : Heap) (k : Nat), FnOk P w K mg base CX0 (k + 3) fGood _ ["wishes", "given"] (spGood K) := fun base k => ok_good FGood (GFirst base k) mFirst FFirst.kp b_First
  have GLed : ∀ (base : Heap) (k : Nat), FnOk P w K mg base CX0 (k + 1) fLed _ ["looks", "start", "there"] (spLed K) := fun base k => ok_led FLed qLen
  have GSome : ∀ (base : Heap) (k : Nat), FnOk P w K mg base CX0 (k + 2) fSome _ ["looks", "there"] (spSome K) := fun base k => ok_some FSome qEnum (GLed base k) mLed FLed.kp b_Led
  have GGroup : ∀ (base : Heap) (k : Nat), FnOk P w K mg base CX0 (k + 3) fGroup _ ["wishes", "own", "given"] (spGroup K) := fun base k => ok_group FGroup qLen qEnum qZip qRange (GOwn base k) mOwn FOwn.kp b_Own (by omega) (GSome base k) mSome FSome.kp b_Some (by omega)
  have GGone : ∀ (base : Heap) (k : Nat), FnOk P w K mg base CX0 (k + 1) fGone _ ["left", "eaters"] (spGone K) := fun base k => ok_gone FGone qMax qEnum
  have GLow : ∀ (base : Heap) (k : Nat), FnOk P w K mg base CX0 (k + 1) fLow _ ["parts", "whole"] spLow := fun base k => ok_low FLow
  have GParts : ∀ (base : Heap) (k : Nat), FnOk P w K mg base CX0 (k + 2) fParts _ ["wishes"] (spParts K) := fun base k => ok_parts FParts qLen qAny qRange qEnum (GDearN base k) mDear FDear.kp b_Dear (GGone base k) mGone FGone.kp b_Gone
  have GShares : ∀ (base : Heap) (k : Nat), FnOk P w K mg base CX0 (k + 3) fShares _ ["wishes"] (spShares K) := fun base k => ok_shares FShares qSum (GParts base k) mParts FParts.kp b_Parts (by omega) (GLow base k) mLow FLow.kp b_Low (by omega)
  have GAGood : ∀ (base : Heap), FnOk P w K mg base CX0 4 fAGood _ ["circle", "given"] (spAGood C) := fun base => ok_agood FAGood T (GEach base 2) mEach FEach.kp b_Each (GSize base 2) mSize b_Size (GGood base 0) mGood FGood.kp b_Good nWRONG
  have GAOrder : ∀ (base : Heap), FnOk P w K mg base CX0 4 fAOrder _ ["circle", "given", "most"] (spAOrder C) := fun base => ok_aorder FAOrder T qLen (GEach base 2) mEach FEach.kp b_Each (GSize base 2) mSize b_Size (GFirst base 1) mFirst FFirst.kp b_First (GRoom base 2) mRoom FRoom.kp b_Room nWRONG nNO nMOST
  have GAGroup : ∀ (base : Heap), FnOk P w K mg base CX0 4 fAGroup _ ["circle", "both"] (spAGroup C) := fun base => ok_agroup FAGroup T qSum (GEach base 2) mEach FEach.kp b_Each (GSize base 2) mSize b_Size (GGroup base 0) mGroup FGroup.kp b_Group nWRONG
  have GAEat : ∀ (base : Heap), FnOk P w K mg base CX0 4 fAEat _ ["circle", "most"] (spAEat C) := fun base => ok_aeat FAEat T qLen (GSize base 2) mSize b_Size (GShares base 0) mShares FShares.kp b_Shares (GRoom base 2) mRoom FRoom.kp b_Room nWRONG nNO nEATERS nNUMBERS
  have GABegin : ∀ (base : Heap), FnOk P w K mg base CX0 4 fABegin _ ["circle"] (spABegin C) := fun base => ok_abegin FABegin T (GGather base 2) mGather b_Gather nDONE
  have GAPeople : ∀ (base : Heap), FnOk P w K mg base CX0 4 fAPeople _ ["circle", "size"] (spAPeople C) := fun base => ok_apeople FAPeople T (GGather base 2) mGather b_Gather nDONE nWRONG nMOST
  have GAWish : ∀ (base : Heap), FnOk P w K mg base CX0 4 fAWish _ ["circle", "person", "things"] (spAWish C) := fun base => ok_awish FAWish T (GEach base 2) mEach FEach.kp b_Each (GSize base 2) mSize b_Size nDONE nWRONG
  have GTo : ∀ (base : Heap), FnOk P w K mg base CX0 5 fTo _ ["circle", "number", "value", "row"] (spTo C) := fun base => ok_to FTo T (GSize base 3) mSize b_Size (GKnown base 3) mKnown b_Known (GABegin base) mABegin FABegin.kp b_ABegin (GAPeople base) mAPeople FAPeople.kp b_APeople (GAWish base) mAWish FAWish.kp b_AWish (GATrade base) mATrade FATrade.kp b_ATrade (GATurns base) mATurns FATurns.kp b_ATurns (GAGood base) mAGood FAGood.kp b_AGood (GAOrder base) mAOrder FAOrder.kp b_AOrder (GAGroup base) mAGroup FAGroup.kp b_AGroup (GAEat base) mAEat FAEat.kp b_AEat nBEGIN nPEOPLE nWISH nTRADE nTURNS nGOOD nORDER nGROUP nNOBODY nNOT
  exact ⟨_, fun s us hu => match us, hu with | [_], _ => .of_eq rfl, fun base _ _ => ok_ans (k := 5) FAns T ⟨mk, aInit, iInit, kc⟩ (PySem.W.mg_of X G aC) qLen (ok_init (k := 0) FInit T) b_Init (by decide) (ok_apart (k := 0) FApart qLen mHV tuHV mHR tuHR) mApart FApart.kp b_Apart (by decide) (GTo base) mTo FTo.kp b_To (by decide)⟩
end My
open PySem PySem.W PyProof.Rows
set_option maxRecDepth 100000 in
set_option maxHeartbeats 8000000 in
theorem PySem.Challenge.cw_wishgiving_s01_answers_holds : PySem.Challenge.rw_wishgiving_s01_answers.Holds := by
  w_on; k_headS; (case hw => exact ⟨[.list []], by decide +kernel, by decide +kernel⟩)
  k_fillS
  refine L2.walk_specK (r := PySem.Challenge.rw_wishgiving_s01_answers) (k := 6) (CX := L2.CX0) (ps := ["calls"]) (sp := My.spAns) (by decide +kernel) rfl rfl ⟨rfl, by decide, by decide⟩ (fun w h Y => PySem.W.kIn_of Y) ?F ?S (fun _ _ _ _ z => z)
  case F =>
    intro w mg fa h Y KX G hmg
    refine' My.all_mk KX G hmg ?aC ?aEach ?lEach ?cEach ?kEach ?aDear ?lDear ?cDear ?kDear ?aTurns ?lTurns ?cTurns ?kTurns ?aFirst ?lFirst ?cFirst ?kFirst ?aGood ?lGood ?cGood ?kGood ?aOwn ?lOwn ?cOwn ?kOwn ?aRing ?lRing ?cRing ?kRing ?aTrade ?lTrade ?cTrade ?kTrade ?aGroup ?lGroup ?cGroup ?kGroup ?aSome ?lSome ?cSome ?kSome ?aLed ?lLed ?cLed ?kLed ?aShares ?lShares ?cShares ?kShares ?aParts ?lParts ?cParts ?kParts ?aGone ?lGone ?cGone ?kGone ?aLow ?lLow ?cLow ?kLow ?aAns ?lAns ?cAns ?kAns ?aApart ?lApart ?cApart ?kApart ?aTo ?lTo ?cTo ?kTo ?aABegin ?lABegin ?cABegin ?kABegin ?aAPeople ?lAPeople ?cAPeople ?kAPeople ?aAWish ?lAWish ?cAWish ?kAWish ?aATrade ?lATrade ?cATrade ?kATrade ?aATurns ?lATurns ?cATurns ?kATurns ?aAGood ?lAGood ?cAGood ?kAGood ?aAOrder ?lAOrder ?cAOrder ?kAOrder ?aAGroup ?lAGroup ?cAGroup ?kAGroup ?aAEat ?lAEat ?cAEat ?kAEat ?aRefusal ?lRefusal ?cRefusal ?kRefusal ?aRoom ?lRoom ?cRoom ?kRoom ?aInit ?iInit ?lInit ?cInit ?kInit ?aGather ?iGather ?lGather ?cGather ?kGather ?aSize ?iSize ?lSize ?cSize ?kSize ?aKnown ?iKnown ?lKnown ?cKnown ?kKnown ?zBEGIN ?zPEOPLE ?zWISH ?zTRADE ?zTURNS ?zGOOD ?zORDER ?zGROUP ?zDONE ?zWRONG ?zNO ?zNOT ?zNOBODY ?zMOST ?zEATERS ?zNUMBERS ?aHV ?lHV ?aHR ?lHR ?bLen ?bSorted ?bList ?bRange ?bAny ?bEnum ?bZip ?bSum ?bMax ?pg ?hd ?po ?sa ?mk ?kc ?nW
    (case aC => k_is)
    (case aEach => k_is)
    (case lEach => k_is)
    (case cEach => k_is)
    (case kEach => k_is)
    (case aDear => k_is)
    (case lDear => k_is)
    (case cDear => k_is)
    (case kDear => k_is)
    (case aTurns => k_is)
    (case lTurns => k_is)
    (case cTurns => k_is)
    (case kTurns => k_is)
    (case aFirst => k_is)
    (case lFirst => k_is)
    (case cFirst => k_is)
    (case kFirst => k_is)
    (case aGood => k_is)
    (case lGood => k_is)
    (case cGood => k_is)
    (case kGood => k_is)
    (case aOwn => k_is)
    (case lOwn => k_is)
    (case cOwn => k_is)
    (case kOwn => k_is)
    (case aRing => k_is)
    (case lRing => k_is)
    (case cRing => k_is)
    (case kRing => k_is)
    (case aTrade => k_is)
    (case lTrade => k_is)
    (case cTrade => k_is)
    (case kTrade => k_is)
    (case aGroup => k_is)
    (case lGroup => k_is)
    (case cGroup => k_is)
    (case kGroup => k_is)
    (case aSome => k_is)
    (case lSome => k_is)
    (case cSome => k_is)
    (case kSome => k_is)
    (case aLed => k_is)
    (case lLed => k_is)
    (case cLed => k_is)
    (case kLed => k_is)
    (case aShares => k_is)
    (case lShares => k_is)
    (case cShares => k_is)
    (case kShares => k_is)
    (case aParts => k_is)
    (case lParts => k_is)
    (case cParts => k_is)
    (case kParts => k_is)
    (case aGone => k_is)
    (case lGone => k_is)
    (case cGone => k_is)
    (case kGone => k_is)
    (case aLow => k_is)
    (case lLow => k_is)
    (case cLow => k_is)
    (case kLow => k_is)
    (case aAns => k_is)
    (case lAns => k_is)
    (case cAns => k_is)
    (case kAns => k_is)
    (case aApart => k_is)
    (case lApart => k_is)
    (case cApart => k_is)
    (case kApart => k_is)
    (case aTo => k_is)
    (case lTo => k_is)
    (case cTo => k_is)
    (case kTo => k_is)
    (case aABegin => k_is)
    (case lABegin => k_is)
    (case cABegin => k_is)
    (case kABegin => k_is)
    (case aAPeople => k_is)
    (case lAPeople => k_is)
    (case cAPeople => k_is)
    (case kAPeople => k_is)
    (case aAWish => k_is)
    (case lAWish => k_is)
    (case cAWish => k_is)
    (case kAWish => k_is)
    (case aATrade => k_is)
    (case lATrade => k_is)
    (case cATrade => k_is)
    (case kATrade => k_is)
    (case aATurns => k_is)
    (case lATurns => k_is)
    (case cATurns => k_is)
    (case kATurns => k_is)
    (case aAGood => k_is)
    (case lAGood => k_is)
    (case cAGood => k_is)
    (case kAGood => k_is)
    (case aAOrder => k_is)
    (case lAOrder => k_is)
    (case cAOrder => k_is)
    (case kAOrder => k_is)
    (case aAGroup => k_is)
    (case lAGroup => k_is)
    (case cAGroup => k_is)
    (case kAGroup => k_is)
    (case aAEat => k_is)
    (case lAEat => k_is)
    (case cAEat => k_is)
    (case kAEat => k_is)
    (case aRefusal => k_is)
    (case lRefusal => k_is)
    (case cRefusal => k_is)
    (case kRefusal => k_is)
    (case aRoom => k_is)
    (case lRoom => k_is)
    (case cRoom => k_is)
    (case kRoom => k_is)
    (case aInit => k_is)
    (case iInit => k_is)
    (case lInit => k_is)
    (case cInit => k_is)
    (case kInit => k_is)
    (case aGather => k_is)
    (case iGather => k_is)
    (case lGather => k_is)
    (case cGather => k_is)
    (case kGather => k_is)
    (case aSize => k_is)
    (case iSize => k_is)
    (case lSize => k_is)
    (case cSize => k_is)
    (case kSize => k_is)
    (case aKnown => k_is)
    (case iKnown => k_is)
    (case lKnown => k_is)
    (case cKnown => k_is)
    (case kKnown => k_is)
    (case zBEGIN => k_is)
    (case zPEOPLE => k_is)
    (case zWISH => k_is)
    (case zTRADE => k_is)
    (case zTURNS => k_is)
    (case zGOOD => k_is)
    (case zORDER => k_is)
    (case zGROUP => k_is)
    (case zDONE => k_is)
    (case zWRONG => k_is)
    (case zNO => k_is)
    (case zNOT => k_is)
    (case zNOBODY => k_is)
    (case zMOST => k_is)
    (case zEATERS => k_is)
    (case zNUMBERS => k_is)
    (case aHV => k_is)
    (case lHV => k_is)
    (case aHR => k_is)
    (case lHR => k_is)
    (case bLen => k_is)
    (case bSorted => k_is)
    (case bList => k_is)
    (case bRange => k_is)
    (case bAny => k_is)
    (case bEnum => k_is)
    (case bZip => k_is)
    (case bSum => k_is)
    (case bMax => k_is)
    (case pg => k_is)
    (case hd => k_is)
    (case po => k_is)
    (case sa => k_is)
    (case mk => k_is)
    (case kc => k_is)
    (case nW => k_is)
  case S =>
    intro K H xs a hO hwi hask hx
    cases hx with
    | cons h1 h2 =>
      cases h2
      cases h1 with
      | lst hs ha =>
        have e := L2.ints_dw a.1 _ ha
        subst e
        have q : (Codec.inLen 0 30000 a.1 && a.1.all (Codec.inInt (-2147483648) 2147483647)) = true := by
          have q' : ((Codec.inLen 0 30000 a.1 && a.1.all (Codec.inInt (-2147483648) 2147483647)) && true) = true := hwi
          rw [Bool.and_true] at q'
          exact q'
        rw [Bool.and_eq_true] at q
        exact ⟨_, a.1, rfl, hs, (Codec.inNat_iff.mp q.1).2, hask, fun H' p hp => .lst (L2.SqL.of hp) (L2.dw_ints _)⟩
#print axioms PySem.Challenge.cw_wishgiving_s01_answers_holds
