import PyProof.Rows.All
import Wide.All
import OpenK.AllK
import Wide.FinOn
import Open.SpecLaws
import KE.OsGo
import HandS.ForSpec
import HandS.ForMost
import HandS.Walk
import HandS.Conv
import HandS.SortInts
import HandS.Deep
import KE.DatumOrd
import HandS.SortKw
import KE.DatumIndex
import HandS.Head4
import HandS.HeadHook1
import PySem.Challenge.RW_shearedsquares_s01_answers
set_option Elab.async false
namespace Sq
open Krct (Glued to from_ inverse after isPerm order orderFrom renamed lexLess less)

/-! ## lists of all squares -/
def Prm (n : Nat) (l : List Nat) : Prop := l.Perm (List.range n)

theorem perm_of_sub : ∀ (r l : List Nat), r.Nodup → (∀ x ∈ r, x ∈ l) → l.length ≤ r.length → l.Perm r
  | [], l, _, _, h => by
    have : l = [] := List.length_eq_zero_iff.mp (by simpa using h)
    subst this; exact List.Perm.refl _
  | a :: r, l, nd, sub, h => by
    have ha : a ∈ l := sub a (List.mem_cons_self ..)
    have p := List.perm_cons_erase ha
    obtain ⟨na, nr⟩ := List.nodup_cons.mp nd
    have h2 : (l.erase a).length ≤ r.length := by
      have := p.length_eq
      simp only [List.length_cons] at this h
      omega
    have q := perm_of_sub r (l.erase a) nr (fun x hx => by
      have : x ≠ a := fun e => na (e ▸ hx)
      exact (List.mem_erase_of_ne this).mpr (sub x (List.mem_cons_of_mem _ hx))) h2
    exact p.trans (q.cons a)

theorem Prm.len {n : Nat} {l : List Nat} (h : Prm n l) : l.length = n := by
  have := h.length_eq; simpa using this
theorem Prm.nd {n : Nat} {l : List Nat} (h : Prm n l) : l.Nodup := h.nodup_iff.mpr List.nodup_range
theorem Prm.mem {n : Nat} {l : List Nat} (h : Prm n l) (x : Nat) : x ∈ l ↔ x < n := by
  rw [h.mem_iff]; exact List.mem_range
theorem Prm.of {n : Nat} {l : List Nat} (nd : l.Nodup) (lt : ∀ x ∈ l, x < n) (len : l.length = n) : Prm n l := by
  refine (perm_of_sub l (List.range n) nd (fun x hx => List.mem_range.mpr (lt x hx)) (by simp [len])).symm
theorem Prm.of_all {n : Nat} {l : List Nat} (all : ∀ x, x < n → x ∈ l) (len : l.length ≤ n) : Prm n l :=
  perm_of_sub (List.range n) l List.nodup_range (fun x hx => all x (List.mem_range.mp hx)) (by simpa using len)
theorem isPerm_iff {n : Nat} {l : List Nat} : isPerm n l = true ↔ Prm n l := by
  unfold isPerm
  rw [Bool.and_eq_true, beq_iff_eq, List.all_eq_true]
  constructor
  · rintro ⟨h, k⟩
    exact Prm.of_all (fun x hx => by simpa using k x (List.mem_range.mpr hx)) (by omega)
  · intro h
    exact ⟨h.len, fun x hx => by
      have := (h.mem x).mpr (List.mem_range.mp hx)
      simpa using this⟩
theorem Prm.range (n : Nat) : Prm n (List.range n) := List.Perm.refl _

theorem to_get {l : List Nat} {s : Nat} (h : s < l.length) : to l s = l[s] := by
  unfold to; simp [List.getD, h]
theorem Prm.to_lt {n : Nat} {l : List Nat} (h : Prm n l) {s : Nat} (hs : s < n) : to l s < n := by
  have hl : s < l.length := by rw [h.len]; exact hs
  rw [to_get hl]; exact (h.mem _).mp (List.getElem_mem hl)
theorem Prm.from_lt {n : Nat} {l : List Nat} (h : Prm n l) {s : Nat} (hs : s < n) : from_ l s < n := by
  have := List.idxOf_lt_length_iff.mpr ((h.mem s).mpr hs)
  rw [h.len] at this; exact this
theorem Prm.to_from {n : Nat} {l : List Nat} (h : Prm n l) {s : Nat} (hs : s < n) : to l (from_ l s) = s := by
  have hl : l.idxOf s < l.length := List.idxOf_lt_length_iff.mpr ((h.mem s).mpr hs)
  unfold from_
  rw [to_get hl]; exact List.getElem_idxOf hl
theorem Prm.from_to {n : Nat} {l : List Nat} (h : Prm n l) {s : Nat} (hs : s < n) : from_ l (to l s) = s := by
  have hl : s < l.length := by rw [h.len]; exact hs
  rw [to_get hl]; unfold from_
  exact h.nd.idxOf_getElem s hl
theorem Prm.to_inj {n : Nat} {l : List Nat} (h : Prm n l) {s t : Nat} (hs : s < n) (ht : t < n) (e : to l s = to l t) : s = t := by
  rw [← h.from_to hs, ← h.from_to ht, e]
theorem Prm.from_inj {n : Nat} {l : List Nat} (h : Prm n l) {s t : Nat} (hs : s < n) (ht : t < n) (e : from_ l s = from_ l t) : s = t := by
  rw [← h.to_from hs, ← h.to_from ht, e]

/-- a list given by a function -/
theorem prm_map {n : Nat} {f : Nat → Nat} {l : List Nat} (hl : Prm n l) (lt : ∀ s, s < n → f s < n) (inj : ∀ s t, s < n → t < n → f s = f t → s = t) : Prm n (l.map f) := by
  refine Prm.of ?_ ?_ ?_
  · rw [List.nodup_iff_pairwise_ne, List.pairwise_map]
    have := List.nodup_iff_pairwise_ne.mp hl.nd
    refine List.Pairwise.imp_of_mem ?_ this
    intro a b ha hb hne e
    exact hne (inj a b ((hl.mem a).mp ha) ((hl.mem b).mp hb) e)
  · intro x hx
    obtain ⟨y, hy, rfl⟩ := List.mem_map.mp hx
    exact lt y ((hl.mem y).mp hy)
  · rw [List.length_map]; exact hl.len
theorem to_map {n : Nat} {f : Nat → Nat} {l : List Nat} (hl : l.length = n) {s : Nat} (hs : s < n) : to (l.map f) s = f (to l s) := by
  have h1 : s < l.length := by omega
  rw [to_get (by rw [List.length_map]; exact h1), to_get h1, List.getElem_map]
theorem to_range {n s : Nat} (hs : s < n) : to (List.range n) s = s := by
  rw [to_get (by simpa using hs), List.getElem_range]
theorem inverse_prm {n : Nat} {l : List Nat} (h : Prm n l) : Prm n (inverse n l) :=
  prm_map (Prm.range n) (fun _ hs => h.from_lt hs) (fun _ _ hs ht e => h.from_inj hs ht e)
theorem to_inverse {n : Nat} {l : List Nat} {s : Nat} (hs : s < n) : to (inverse n l) s = from_ l s := by
  unfold inverse
  rw [to_map (List.length_range ..) hs, to_range hs]
theorem after_prm {n : Nat} {l k : List Nat} (h : Prm n l) (hk : Prm n k) : Prm n (after l k) :=
  prm_map h (fun _ hs => hk.to_lt hs) (fun _ _ hs ht e => hk.to_inj hs ht e)
theorem to_after {n : Nat} {l k : List Nat} (h : Prm n l) {s : Nat} (hs : s < n) : to (after l k) s = to k (to l s) := by
  unfold after
  exact to_map h.len hs
theorem ext_to {n : Nat} {l k : List Nat} (hl : l.length = n) (hk : k.length = n) (h : ∀ s, s < n → to l s = to k s) : l = k := by
  apply List.ext_getElem (by omega)
  intro i h1 h2
  have := h i (by omega)
  rwa [to_get h1, to_get h2] at this

/-! ## glued, each told once -/
structure Gl (g : Glued) : Prop where
  e : Prm g.n g.east
  n : Prm g.n g.north
structure Closed (g : Glued) (S : Nat → Prop) : Prop where
  e : ∀ x, x < g.n → S x → S (to g.east x)
  n : ∀ x, x < g.n → S x → S (to g.north x)

def push (l : List Nat) (t : Nat) : List Nat := if l.contains t then l else l ++ [t]
theorem push_mem {l : List Nat} {t x : Nat} : x ∈ push l t ↔ x ∈ l ∨ x = t := by
  unfold push
  by_cases h : l.contains t = true
  · rw [if_pos h]
    have : t ∈ l := by simpa using h
    exact ⟨.inl, fun q => q.elim id fun e => e ▸ this⟩
  · rw [if_neg h]; simp
theorem push_nd {l : List Nat} {t : Nat} (h : l.Nodup) : (push l t).Nodup := by
  unfold push
  by_cases c : l.contains t = true
  · rw [if_pos c]; exact h
  · rw [if_neg c]
    have : t ∉ l := by simpa using c
    rw [List.nodup_append]
    exact ⟨h, by simp, by intro a ha b hb e; simp at hb; subst hb; exact this (e ▸ ha)⟩
theorem push_pre {l : List Nat} {t : Nat} : l <+: push l t := by
  unfold push
  by_cases c : l.contains t = true
  · rw [if_pos c]; exact List.prefix_refl _
  · rw [if_neg c]; exact List.prefix_append _ _
theorem order_zero (g : Glued) (l : List Nat) (i : Nat) : order g 0 l i = l := rfl
theorem order_none {g : Glued} {k : Nat} {l : List Nat} {i : Nat} (h : l[i]? = none) : order g (k + 1) l i = l := by
  simp only [order, h]
theorem order_some {g : Glued} {k : Nat} {l : List Nat} {i s : Nat} (h : l[i]? = some s) : order g (k + 1) l i = order g k (push (push l (to g.east s)) (to g.north s)) (i + 1) := by
  simp only [order, h]; rfl

structure OrderOk (g : Glued) (l r : List Nat) : Prop where
  nd : r.Nodup
  lt : ∀ x ∈ r, x < g.n
  ce : ∀ x ∈ r, to g.east x ∈ r
  cn : ∀ x ∈ r, to g.north x ∈ r
  pre : l <+: r
  least : ∀ S : Nat → Prop, Closed g S → (∀ x ∈ l, S x) → ∀ x ∈ r, S x

theorem order_ok {g : Glued} (h : Gl g) : ∀ (k : Nat) (l : List Nat) (i : Nat), l.Nodup → (∀ x ∈ l, x < g.n) → i ≤ l.length →
    (∀ (j : Nat) (x : Nat), j < i → l[j]? = some x → to g.east x ∈ l ∧ to g.north x ∈ l) → g.n < k + i → OrderOk g l (order g k l i)
  | 0, l, i, nd, lt, hi, _, hk => by
    exfalso
    have : l.length ≤ g.n := by
      have := List.Nodup.length_le_of_subset (l₂ := List.range g.n) nd (fun x hx => List.mem_range.mpr (lt x hx))
      simpa using this
    omega
  | k + 1, l, i, nd, lt, hi, hc, hk => by
    cases e : l[i]? with
    | none =>
      rw [order_none e]
      have hi2 : l.length ≤ i := List.getElem?_eq_none_iff.mp e
      have cc : ∀ x ∈ l, to g.east x ∈ l ∧ to g.north x ∈ l := fun x hx => by
        obtain ⟨j, hj⟩ := List.mem_iff_getElem?.mp hx
        have : j < l.length := (List.getElem?_eq_some_iff.mp hj).1
        exact hc j x (by omega) hj
      exact ⟨nd, lt, fun x hx => (cc x hx).1, fun x hx => (cc x hx).2, List.prefix_refl _, fun _ _ q => q⟩
    | some s =>
      rw [order_some e]
      have hs : s ∈ l := List.mem_of_getElem? e
      have hsn := lt s hs
      have hil : i < l.length := (List.getElem?_eq_some_iff.mp e).1
      have p1 : l <+: push (push l (to g.east s)) (to g.north s) := push_pre.trans push_pre
      have R := order_ok h k (push (push l (to g.east s)) (to g.north s)) (i + 1) (push_nd (push_nd nd))
        (fun x hx => by
          rcases push_mem.mp hx with hx | rfl
          · rcases push_mem.mp hx with hx | rfl
            · exact lt x hx
            · exact h.e.to_lt hsn
          · exact h.n.to_lt hsn)
        (by have := p1.length_le; omega)
        (fun j x hj hx => by
          have hjl : j < l.length := by omega
          have ex : l[j]? = some x := by
            obtain ⟨t, et⟩ := p1
            rw [← et, List.getElem?_append_left hjl] at hx; exact hx
          by_cases hji : j < i
          · obtain ⟨a, b⟩ := hc j x hji ex
            exact ⟨p1.mem a, p1.mem b⟩
          · have : j = i := by omega
            subst this
            rw [e] at ex; cases ex
            exact ⟨push_mem.mpr (.inl (push_mem.mpr (.inr rfl))), push_mem.mpr (.inr rfl)⟩)
        (by omega)
      exact ⟨R.nd, R.lt, R.ce, R.cn, p1.trans R.pre, fun S cS hS => R.least S cS (fun x hx => by
          rcases push_mem.mp hx with hx | rfl
          · rcases push_mem.mp hx with hx | rfl
            · exact hS x hx
            · exact cS.e s hsn (hS s hs)
          · exact cS.n s hsn (hS s hs))⟩

theorem from_ok {g : Glued} (h : Gl g) {s : Nat} (hs : s < g.n) : OrderOk g [s] (orderFrom g s) :=
  order_ok h (g.n + 1) [s] 0 (by simp) (by simpa using hs) (Nat.zero_le _) (fun j x hj => absurd hj (Nat.not_lt_zero j)) (by omega)
theorem from_self {g : Glued} (h : Gl g) {s : Nat} (hs : s < g.n) : s ∈ orderFrom g s := (from_ok h hs).pre.mem (by simp)

/-- what is closed under a step that tells each square once is closed under the step back -/
theorem back_closed {n : Nat} {f : Nat → Nat} (inj : ∀ s t, s < n → t < n → f s = f t → s = t) {r : List Nat} (nd : r.Nodup) (lt : ∀ x ∈ r, x < n) (c : ∀ x ∈ r, f x ∈ r) {x : Nat} (hx : x < n) (h : f x ∈ r) : x ∈ r := by
  have ndm : (r.map f).Nodup := by
    rw [List.nodup_iff_pairwise_ne, List.pairwise_map]
    refine List.Pairwise.imp_of_mem ?_ (List.nodup_iff_pairwise_ne.mp nd)
    intro a b ha hb hne e
    exact hne (inj a b (lt a ha) (lt b hb) e)
  have p := perm_of_sub (r.map f) r ndm (fun y hy => by
    obtain ⟨z, hz, rfl⟩ := List.mem_map.mp hy
    exact c z hz) (by simp)
  obtain ⟨y, hy, e⟩ := List.mem_map.mp (p.mem_iff.mp h)
  rw [← inj y x (lt y hy) hx e]; exact hy

theorem from_back_e {g : Glued} (h : Gl g) {l r : List Nat} (o : OrderOk g l r) {x : Nat} (hx : x < g.n) (q : to g.east x ∈ r) : x ∈ r :=
  back_closed (fun _ _ a b e => h.e.to_inj a b e) o.nd o.lt o.ce hx q
theorem from_back_n {g : Glued} (h : Gl g) {l r : List Nat} (o : OrderOk g l r) {x : Nat} (hx : x < g.n) (q : to g.north x ∈ r) : x ∈ r :=
  back_closed (fun _ _ a b e => h.n.to_inj a b e) o.nd o.lt o.cn hx q

/-- all hang together -/
structure Ok (g : Glued) : Prop extends Gl g where
  pos : 0 < g.n
  all : Prm g.n (orderFrom g 0)

theorem whole_iff {g : Glued} (h : Gl g) (hp : 0 < g.n) : g.whole = true ↔ Prm g.n (orderFrom g 0) := by
  unfold Glued.whole
  rw [beq_iff_eq]
  have o := from_ok h hp
  exact ⟨fun e => Prm.of o.nd o.lt e, fun p => p.len⟩
/-- from every square all are come to -/
theorem Ok.from_ {g : Glued} (h : Ok g) {s : Nat} (hs : s < g.n) : Prm g.n (orderFrom g s) := by
  have o := from_ok h.toGl hs
  have o0 := from_ok h.toGl h.pos
  refine Prm.of_all (fun x hx => ?_) ?_
  · by_cases c : 0 ∈ orderFrom g s
    · exact o0.least (fun y => y ∈ orderFrom g s) ⟨fun y _ hy => o.ce y hy, fun y _ hy => o.cn y hy⟩ (by simpa using c) x ((h.all.mem x).mpr hx)
    · exfalso
      have := o0.least (fun y => y ∉ orderFrom g s) ⟨fun y hy hn q => hn (from_back_e h.toGl o hy q), fun y hy hn q => hn (from_back_n h.toGl o hy q)⟩ (by simpa using c) s ((h.all.mem s).mpr hs)
      exact this (from_self h.toGl hs)
  · have := List.Nodup.length_le_of_subset (l₂ := List.range g.n) o.nd (fun x hx => List.mem_range.mpr (o.lt x hx))
    simpa using this
theorem Ok.of_any {g : Glued} (h : Gl g) {s : Nat} (hs : s < g.n) (p : Prm g.n (orderFrom g s)) : Ok g := by
  have hp : 0 < g.n := by omega
  refine ⟨h, hp, ?_⟩
  have o := from_ok h hs
  have o0 := from_ok h hp
  refine Prm.of_all (fun x hx => ?_) ?_
  · by_cases c : s ∈ orderFrom g 0
    · exact o.least (fun y => y ∈ orderFrom g 0) ⟨fun y _ hy => o0.ce y hy, fun y _ hy => o0.cn y hy⟩ (by simpa using c) x ((p.mem x).mpr hx)
    · exfalso
      have := o.least (fun y => y ∉ orderFrom g 0) ⟨fun y hy hn q => hn (from_back_e h o0 hy q), fun y hy hn q => hn (from_back_n h o0 hy q)⟩ (by simpa using c) 0 ((p.mem 0).mpr hp)
      exact this (from_self h hp)
  · have := List.Nodup.length_le_of_subset (l₂ := List.range g.n) o0.nd (fun x hx => List.mem_range.mpr (o0.lt x hx))
    simpa using this
end Sq
set_option Elab.async false
set_option linter.unusedVariables false
namespace Sq
open Krct (Glued to from_ inverse after isPerm order orderFrom renamed lexLess less name)
open Krcu (shear unshear turn)

/-! ## other names -/
/-- k is g with each square s called p s -/
structure Rel (p : Nat → Nat) (g k : Glued) : Prop where
  n : k.n = g.n
  lt : ∀ s, s < g.n → p s < g.n
  inj : ∀ s t, s < g.n → t < g.n → p s = p t → s = t
  e : ∀ s, s < g.n → to k.east (p s) = p (to g.east s)
  nn : ∀ s, s < g.n → to k.north (p s) = p (to g.north s)

theorem contains_map {n : Nat} {p : Nat → Nat} (inj : ∀ s t, s < n → t < n → p s = p t → s = t) {l : List Nat} (hl : ∀ x ∈ l, x < n) {t : Nat} (ht : t < n) : (l.map p).contains (p t) = l.contains t := by
  rw [Bool.eq_iff_iff]
  simp only [List.contains_iff_mem, List.mem_map]
  constructor
  · rintro ⟨y, hy, e⟩
    rw [← inj y t (hl y hy) ht e]; exact hy
  · intro h; exact ⟨t, h, rfl⟩
theorem push_map {n : Nat} {p : Nat → Nat} (inj : ∀ s t, s < n → t < n → p s = p t → s = t) {l : List Nat} (hl : ∀ x ∈ l, x < n) {t : Nat} (ht : t < n) : push (l.map p) (p t) = (push l t).map p := by
  unfold push
  rw [contains_map inj hl ht]
  by_cases c : l.contains t = true
  · rw [if_pos c, if_pos c]
  · rw [if_neg c, if_neg c]; simp
theorem push_lt {n : Nat} {l : List Nat} (hl : ∀ x ∈ l, x < n) {t : Nat} (ht : t < n) : ∀ x ∈ push l t, x < n := fun x hx => by
  rcases push_mem.mp hx with h | rfl
  · exact hl x h
  · exact ht
theorem order_rel {p : Nat → Nat} {g k : Glued} (h : Gl g) (r : Rel p g k) : ∀ (f : Nat) (l : List Nat) (i : Nat), (∀ x ∈ l, x < g.n) → order k f (l.map p) i = (order g f l i).map p
  | 0, l, i, _ => rfl
  | f + 1, l, i, hl => by
    cases e : l[i]? with
    | none => rw [order_none e, order_none (by rw [List.getElem?_map, e]; rfl)]
    | some s =>
      have hs : s < g.n := hl s (List.mem_of_getElem? e)
      rw [order_some e, order_some (s := p s) (by rw [List.getElem?_map, e]; rfl), r.e s hs, r.nn s hs, push_map r.inj hl (h.e.to_lt hs), push_map r.inj (push_lt hl (h.e.to_lt hs)) (h.n.to_lt hs)]
      exact order_rel h r f _ (i + 1) (push_lt (push_lt hl (h.e.to_lt hs)) (h.n.to_lt hs))
theorem orderFrom_rel {p : Nat → Nat} {g k : Glued} (h : Gl g) (r : Rel p g k) {s : Nat} (hs : s < g.n) : orderFrom k (p s) = (orderFrom g s).map p := by
  unfold orderFrom
  rw [r.n]
  exact order_rel h r (g.n + 1) [s] 0 (by simpa using hs)
theorem idxOf_map {n : Nat} {p : Nat → Nat} (inj : ∀ s t, s < n → t < n → p s = p t → s = t) : ∀ {l : List Nat}, (∀ x ∈ l, x < n) → ∀ {t : Nat}, t < n → (l.map p).idxOf (p t) = l.idxOf t
  | [], _, _, _ => rfl
  | a :: l, hl, t, ht => by
    have ha : a < n := hl a (by simp)
    rw [List.map_cons, List.idxOf_cons, List.idxOf_cons, idxOf_map inj (fun x hx => hl x (List.mem_cons_of_mem _ hx)) ht]
    have : (p a == p t) = (a == t) := by
      rw [Bool.eq_iff_iff, beq_iff_eq, beq_iff_eq]
      exact ⟨fun e => inj a t ha ht e, fun e => by rw [e]⟩
    rw [this]
theorem glued_ext {a b : Glued} (h1 : a.n = b.n) (h2 : a.east = b.east) (h3 : a.north = b.north) : a = b := by
  cases a; cases b; simp_all
theorem renamed_rel {p : Nat → Nat} {g k : Glued} (h : Gl g) (r : Rel p g k) {l : List Nat} (hl : ∀ x ∈ l, x < g.n) : renamed k (l.map p) = renamed g l := by
  unfold renamed
  refine glued_ext r.n ?_ ?_
  · simp only [List.map_map]
    refine List.map_congr_left fun s hs => ?_
    have hs' := hl s hs
    simp only [Function.comp]
    rw [r.e s hs', idxOf_map r.inj hl (h.e.to_lt hs')]
  · simp only [List.map_map]
    refine List.map_congr_left fun s hs => ?_
    have hs' := hl s hs
    simp only [Function.comp]
    rw [r.nn s hs', idxOf_map r.inj hl (h.n.to_lt hs')]
/-- p comes to every square -/
theorem Rel.surj {p : Nat → Nat} {g k : Glued} (r : Rel p g k) {t : Nat} (ht : t < g.n) : ∃ s, s < g.n ∧ p s = t := by
  have q : Prm g.n ((List.range g.n).map p) := prm_map (Prm.range _) r.lt r.inj
  obtain ⟨s, hs, e⟩ := List.mem_map.mp ((q.mem t).mpr ht)
  exact ⟨s, List.mem_range.mp hs, e⟩
/-- renamed by a list of all squares -/
theorem renamed_is {g : Glued} (h : Gl g) {l : List Nat} (hl : Prm g.n l) : Rel (fun s => l.idxOf s) g (renamed g l) := by
  refine ⟨rfl, fun s hs => hl.from_lt hs, fun s t hs ht e => hl.from_inj hs ht e, fun s hs => ?_, fun s hs => ?_⟩
  · show to (l.map fun s => l.idxOf (to g.east s)) (from_ l s) = _
    rw [to_map hl.len (hl.from_lt hs), hl.to_from hs]
  · show to (l.map fun s => l.idxOf (to g.north s)) (from_ l s) = _
    rw [to_map hl.len (hl.from_lt hs), hl.to_from hs]
theorem renamed_gl {g : Glued} (h : Gl g) {l : List Nat} (hl : Prm g.n l) : Gl (renamed g l) :=
  ⟨prm_map hl (fun s hs => hl.from_lt (h.e.to_lt hs)) (fun s t hs ht e => h.e.to_inj hs ht (hl.from_inj (h.e.to_lt hs) (h.e.to_lt ht) e)),
   prm_map hl (fun s hs => hl.from_lt (h.n.to_lt hs)) (fun s t hs ht e => h.n.to_inj hs ht (hl.from_inj (h.n.to_lt hs) (h.n.to_lt ht) e))⟩
theorem rel_ok {p : Nat → Nat} {g k : Glued} (h : Ok g) (hk : Gl k) (r : Rel p g k) : Ok k := by
  have e := orderFrom_rel h.toGl r h.pos
  have hp := r.lt 0 h.pos
  refine Ok.of_any hk (s := p 0) (by rw [r.n]; exact hp) ?_
  rw [e, r.n]
  exact prm_map h.all r.lt r.inj
theorem renamed_ok {g : Glued} (h : Ok g) {l : List Nat} (hl : Prm g.n l) : Ok (renamed g l) :=
  rel_ok h (renamed_gl h.toGl hl) (renamed_is h.toGl hl)

/-! ## the least -/
theorem lex_irrefl : ∀ l : List Nat, lexLess l l = false
  | [] => rfl
  | a :: l => by simp [lexLess, lex_irrefl l]
theorem lex_trans : ∀ {a b c : List Nat}, lexLess a b = true → lexLess b c = true → lexLess a c = true
  | [], _, _, h, _ => by simp [lexLess] at h
  | _ :: _, [], _, h, _ => by simp [lexLess] at h
  | _ :: _, _ :: _, [], _, h => by simp [lexLess] at h
  | a :: l, b :: k, c :: m, h1, h2 => by
    simp only [lexLess, Bool.or_eq_true, Bool.and_eq_true, decide_eq_true_eq, beq_iff_eq] at h1 h2 ⊢
    rcases h1 with h1 | ⟨e1, h1⟩ <;> rcases h2 with h2 | ⟨e2, h2⟩
    · exact .inl (by omega)
    · exact .inl (by omega)
    · exact .inl (by omega)
    · exact .inr ⟨by omega, lex_trans h1 h2⟩
theorem lex_total : ∀ {a b : List Nat}, a.length = b.length → lexLess a b = false → lexLess b a = false → a = b
  | [], [], _, _, _ => rfl
  | [], _ :: _, h, _, _ => by simp at h
  | _ :: _, [], h, _, _ => by simp at h
  | a :: l, b :: k, h, h1, h2 => by
    simp only [lexLess, Bool.or_eq_false_iff, Bool.and_eq_false_iff, decide_eq_false_iff_not, beq_eq_false_iff_ne, ne_eq] at h1 h2
    have e : a = b := by omega
    subst e
    rw [lex_total (by simpa using h) (h1.2.resolve_left (by simp)) (h2.2.resolve_left (by simp))]
/-- tables of n squares -/
structure Tab (n : Nat) (g : Glued) : Prop where
  c : g.n = n
  e : g.east.length = n
  nn : g.north.length = n
theorem less_total {n : Nat} {a b : Glued} (ha : Tab n a) (hb : Tab n b) (h1 : less a b = false) (h2 : less b a = false) : a = b := by
  have e := lex_total (a := a.east ++ a.north) (b := b.east ++ b.north) (by simp [ha.e, ha.nn, hb.e, hb.nn]) h1 h2
  obtain ⟨e1, e2⟩ := List.append_inj e (by rw [ha.e, hb.e])
  exact glued_ext (ha.c.trans hb.c.symm) e1 e2
theorem less_irrefl (a : Glued) : less a a = false := lex_irrefl _
theorem less_trans {a b c : Glued} (h1 : less a b = true) (h2 : less b c = true) : less a c = true := lex_trans h1 h2
/-- the lesser one is kept -/
def keep (m x : Glued) : Glued := if less x m then x else m
theorem keep_or (m x : Glued) : keep m x = m ∨ keep m x = x := by
  unfold keep
  by_cases c : less x m = true
  · rw [if_pos c]; exact .inr rfl
  · rw [if_neg c]; exact .inl rfl
theorem less_asymm {a b : Glued} (h : less a b = true) : less b a = false := by
  cases c : less b a with
  | false => rfl
  | true =>
    have := less_trans h c
    rw [less_irrefl] at this; cases this
/-- total preorder: not less goes through -/
theorem nle_trans {n : Nat} {a b c : Glued} (ha : Tab n a) (hb : Tab n b) (hc : Tab n c) (h1 : less b a = false) (h2 : less c b = false) : less c a = false := by
  cases q : less c a with
  | false => rfl
  | true =>
    cases r : less a b with
    | true =>
      have := less_trans q r
      rw [h2] at this; cases this
    | false =>
      have e := less_total ha hb r h1
      subst e
      rw [h2] at q; cases q
theorem fold_keep {n : Nat} : ∀ (l : List Glued) (m : Glued), Tab n m → (∀ x ∈ l, Tab n x) →
    (l.foldl keep m = m ∨ l.foldl keep m ∈ l) ∧ less m (l.foldl keep m) = false ∧ ∀ x ∈ l, less x (l.foldl keep m) = false
  | [], m, _, _ => ⟨.inl rfl, less_irrefl m, fun _ h => nomatch h⟩
  | y :: l, m, hm, hl => by
    have hy := hl y (by simp)
    have hk : Tab n (keep m y) := by rcases keep_or m y with e | e <;> rw [e] <;> assumption
    obtain ⟨i1, i2, i3⟩ := fold_keep l (keep m y) hk (fun x hx => hl x (by simp [hx]))
    rw [List.foldl_cons]
    have hres : Tab n (l.foldl keep (keep m y)) := by
      rcases i1 with e | e
      · rw [e]; exact hk
      · exact hl _ (by simp [e])
    refine ⟨?_, ?_, ?_⟩
    · rcases i1 with e | e
      · rw [e]
        rcases keep_or m y with e | e <;> rw [e] <;> simp
      · exact .inr (by simp [e])
    · have : less m (keep m y) = false := by
        unfold keep
        by_cases c : less y m = true
        · rw [if_pos c]; exact less_asymm c
        · rw [if_neg c]; exact less_irrefl m
      exact nle_trans hres hk hm i2 this
    · intro x hx
      rcases List.mem_cons.mp hx with rfl | hx
      · have : less x (keep m x) = false := by
          unfold keep
          by_cases c : less x m = true
          · rw [if_pos c]; exact less_irrefl x
          · rw [if_neg c]; simpa using c
        exact nle_trans hres hk hy i2 this
      · exact i3 x hx

/-! ## the name -/
def tab (g : Glued) (s : Nat) : Glued := renamed g (orderFrom g s)
theorem tab_tab {g : Glued} (h : Ok g) {s : Nat} (hs : s < g.n) : Tab g.n (tab g s) :=
  ⟨rfl, by show (List.map _ _).length = _; rw [List.length_map]; exact (h.from_ hs).len, by show (List.map _ _).length = _; rw [List.length_map]; exact (h.from_ hs).len⟩
theorem name_fold (g : Glued) : name g = ((List.range g.n).map (tab g)).foldl keep (tab g 0) := by
  rw [List.foldl_map]; rfl
/-- the least of all it's renamed to -/
structure NameOf (g m : Glued) : Prop where
  is : ∃ s, s < g.n ∧ m = tab g s
  le : ∀ s, s < g.n → less (tab g s) m = false
theorem name_is {g : Glued} (h : Ok g) : NameOf g (name g) := by
  rw [name_fold]
  obtain ⟨a, _, c⟩ := fold_keep (n := g.n) ((List.range g.n).map (tab g)) (tab g 0) (tab_tab h h.pos) (fun x hx => by
    obtain ⟨s, hs, rfl⟩ := List.mem_map.mp hx
    exact tab_tab h (List.mem_range.mp hs))
  refine ⟨?_, fun s hs => c _ (List.mem_map.mpr ⟨s, List.mem_range.mpr hs, rfl⟩)⟩
  rcases a with e | e
  · exact ⟨0, h.pos, e⟩
  · obtain ⟨s, hs, e⟩ := List.mem_map.mp e
    exact ⟨s, List.mem_range.mp hs, e.symm⟩
theorem NameOf.uniq {g a b : Glued} (h : Ok g) (ha : NameOf g a) (hb : NameOf g b) : a = b := by
  obtain ⟨s, hs, rfl⟩ := ha.is
  obtain ⟨t, ht, rfl⟩ := hb.is
  exact less_total (tab_tab h hs) (tab_tab h ht) (hb.le s hs) (ha.le t ht)
theorem tab_rel {p : Nat → Nat} {g k : Glued} (h : Ok g) (r : Rel p g k) {s : Nat} (hs : s < g.n) : tab k (p s) = tab g s := by
  unfold tab
  rw [orderFrom_rel h.toGl r hs]
  exact renamed_rel h.toGl r (fun x hx => ((h.from_ hs).mem x).mp hx)
theorem name_rel {p : Nat → Nat} {g k : Glued} (h : Ok g) (hk : Gl k) (r : Rel p g k) : name k = name g := by
  have hko := rel_ok h hk r
  refine NameOf.uniq hko (name_is hko) ?_
  have N := name_is h
  obtain ⟨s, hs, e⟩ := N.is
  refine ⟨⟨p s, by rw [r.n]; exact r.lt s hs, by rw [tab_rel h r hs]; exact e⟩, fun t ht => ?_⟩
  rw [r.n] at ht
  obtain ⟨s', hs', rfl⟩ := r.surj ht
  rw [tab_rel h r hs']
  exact N.le s' hs'
theorem tab_name {g : Glued} (h : Ok g) {s : Nat} (hs : s < g.n) : name (tab g s) = name g :=
  name_rel h (renamed_gl h.toGl (h.from_ hs)) (renamed_is h.toGl (h.from_ hs))
theorem name_rel_of {g : Glued} (h : Ok g) : ∃ p, Rel p g (name g) := by
  obtain ⟨s, hs, e⟩ := (name_is h).is
  rw [e]
  exact ⟨_, renamed_is h.toGl (h.from_ hs)⟩
theorem name_ok {g : Glued} (h : Ok g) : Ok (name g) := by
  obtain ⟨s, hs, e⟩ := (name_is h).is
  rw [e]; exact renamed_ok h (h.from_ hs)
theorem name_name {g : Glued} (h : Ok g) : name (name g) = name g := by
  obtain ⟨s, hs, e⟩ := (name_is h).is
  have := tab_name h hs
  rw [← e] at this; exact this
theorem name_n {g : Glued} (h : Ok g) : (name g).n = g.n := by
  obtain ⟨s, hs, e⟩ := (name_is h).is
  rw [e]; rfl

/-! ## moves -/
theorem shear_gl {g : Glued} (h : Gl g) : Gl (shear g) := ⟨h.e, after_prm (inverse_prm h.e) h.n⟩
theorem unshear_gl {g : Glued} (h : Gl g) : Gl (unshear g) := ⟨h.e, after_prm h.e h.n⟩
theorem turn_gl {g : Glued} (h : Gl g) : Gl (turn g) := ⟨inverse_prm h.n, h.e⟩
theorem shear_n {g : Glued} (h : Gl g) {s : Nat} (hs : s < g.n) : to (shear g).north s = to g.north (from_ g.east s) := by
  show to (after (inverse g.n g.east) g.north) s = _
  rw [to_after (inverse_prm h.e) hs, to_inverse hs]
theorem unshear_n {g : Glued} (h : Gl g) {s : Nat} (hs : s < g.n) : to (unshear g).north s = to g.north (to g.east s) := by
  show to (after g.east g.north) s = _
  rw [to_after h.e hs]
theorem turn_e {g : Glued} {s : Nat} (hs : s < g.n) : to (turn g).east s = from_ g.north s := by
  show to (inverse g.n g.north) s = _
  rw [to_inverse hs]
theorem all_of_closed {g : Glued} (h : Ok g) {r : List Nat} (ce : ∀ x ∈ r, to g.east x ∈ r) (cn : ∀ x ∈ r, to g.north x ∈ r) (h0 : 0 ∈ r) {x : Nat} (hx : x < g.n) : x ∈ r :=
  (from_ok h.toGl h.pos).least (fun y => y ∈ r) ⟨fun y _ hy => ce y hy, fun y _ hy => cn y hy⟩ (by simpa using h0) x ((h.all.mem x).mpr hx)
theorem ok_of_closed {g k : Glued} (h : Ok g) (hk : Gl k) (en : k.n = g.n) (ce : ∀ x ∈ orderFrom k 0, to g.east x ∈ orderFrom k 0) (cn : ∀ x ∈ orderFrom k 0, to g.north x ∈ orderFrom k 0) : Ok k := by
  have hp : 0 < k.n := by rw [en]; exact h.pos
  have o := from_ok hk hp
  refine ⟨hk, hp, Prm.of_all (fun x hx => all_of_closed h ce cn (from_self hk hp) (by rw [← en]; exact hx)) ?_⟩
  have := List.Nodup.length_le_of_subset (l₂ := List.range k.n) o.nd (fun x hx => List.mem_range.mpr (o.lt x hx))
  simpa using this
theorem shear_ok {g : Glued} (h : Ok g) : Ok (shear g) := by
  have hk := shear_gl h.toGl
  have o := from_ok hk (s := 0) h.pos
  have ce : ∀ x ∈ orderFrom (shear g) 0, to g.east x ∈ orderFrom (shear g) 0 := o.ce
  refine ok_of_closed h hk rfl ce fun x hx => ?_
  have hxn : x < g.n := o.lt x hx
  have := o.cn _ (ce x hx)
  rw [shear_n h.toGl (h.e.to_lt hxn), h.e.from_to hxn] at this
  exact this
theorem unshear_ok {g : Glued} (h : Ok g) : Ok (unshear g) := by
  have hk := unshear_gl h.toGl
  have o := from_ok hk (s := 0) h.pos
  have ce : ∀ x ∈ orderFrom (unshear g) 0, to g.east x ∈ orderFrom (unshear g) 0 := o.ce
  refine ok_of_closed h hk rfl ce fun x hx => ?_
  have hxn : x < g.n := o.lt x hx
  have hy : from_ g.east x ∈ orderFrom (unshear g) 0 := from_back_e hk o (h.e.from_lt hxn) (by
    show to g.east _ ∈ _
    rw [h.e.to_from hxn]; exact hx)
  have := o.cn _ hy
  rw [unshear_n h.toGl (h.e.from_lt hxn), h.e.to_from hxn] at this
  exact this
theorem turn_ok {g : Glued} (h : Ok g) : Ok (turn g) := by
  have hk := turn_gl h.toGl
  have o := from_ok hk (s := 0) h.pos
  refine ok_of_closed h hk rfl o.cn fun x hx => ?_
  have hxn : x < g.n := o.lt x hx
  refine from_back_e hk o (h.n.to_lt hxn) ?_
  rw [turn_e (h.n.to_lt hxn), h.n.from_to hxn]
  exact hx
theorem Rel.from_e {p : Nat → Nat} {g k : Glued} (h : Gl g) (hk : Gl k) (r : Rel p g k) {s : Nat} (hs : s < g.n) : from_ k.east (p s) = p (from_ g.east s) := by
  have h1 : to k.east (p (from_ g.east s)) = p s := by rw [r.e _ (h.e.from_lt hs), h.e.to_from hs]
  rw [← h1]
  exact hk.e.from_to (by rw [r.n]; exact r.lt _ (h.e.from_lt hs))
theorem Rel.from_n {p : Nat → Nat} {g k : Glued} (h : Gl g) (hk : Gl k) (r : Rel p g k) {s : Nat} (hs : s < g.n) : from_ k.north (p s) = p (from_ g.north s) := by
  have h1 : to k.north (p (from_ g.north s)) = p s := by rw [r.nn _ (h.n.from_lt hs), h.n.to_from hs]
  rw [← h1]
  exact hk.n.from_to (by rw [r.n]; exact r.lt _ (h.n.from_lt hs))
theorem rel_shear {p : Nat → Nat} {g k : Glued} (h : Gl g) (hk : Gl k) (r : Rel p g k) : Rel p (shear g) (shear k) := by
  refine ⟨r.n, r.lt, r.inj, r.e, fun s hs => ?_⟩
  have hs' : s < g.n := hs
  rw [shear_n h hs', shear_n hk (by rw [r.n]; exact r.lt s hs'), r.from_e h hk hs', r.nn _ (h.e.from_lt hs')]
theorem rel_unshear {p : Nat → Nat} {g k : Glued} (h : Gl g) (hk : Gl k) (r : Rel p g k) : Rel p (unshear g) (unshear k) := by
  refine ⟨r.n, r.lt, r.inj, r.e, fun s hs => ?_⟩
  have hs' : s < g.n := hs
  rw [unshear_n h hs', unshear_n hk (by rw [r.n]; exact r.lt s hs'), r.e s hs', r.nn _ (h.e.to_lt hs')]
theorem rel_turn {p : Nat → Nat} {g k : Glued} (h : Gl g) (hk : Gl k) (r : Rel p g k) : Rel p (turn g) (turn k) := by
  refine ⟨r.n, r.lt, r.inj, fun s hs => ?_, r.e⟩
  have hs' : s < g.n := hs
  rw [turn_e hs', turn_e (by rw [r.n]; exact r.lt s hs'), r.from_n h hk hs']
/-- the move m -/
def mv (m : Nat) (g : Glued) : Glued := (Krcv.moves.getD m id) g
theorem mv_ok {m : Nat} {g : Glued} (h : Ok g) : Ok (mv m g) := by
  unfold mv
  match m with
  | 0 => exact shear_ok h
  | 1 => exact unshear_ok h
  | 2 => exact turn_ok h
  | _ + 3 => exact h
theorem mv_rel {m : Nat} {p : Nat → Nat} {g k : Glued} (h : Gl g) (hk : Gl k) (r : Rel p g k) : Rel p (mv m g) (mv m k) := by
  unfold mv
  match m with
  | 0 => exact rel_shear h hk r
  | 1 => exact rel_unshear h hk r
  | 2 => exact rel_turn h hk r
  | _ + 3 => exact r
theorem mv_n (m : Nat) (g : Glued) : (mv m g).n = g.n := by
  unfold mv
  match m with
  | 0 => rfl
  | 1 => rfl
  | 2 => rfl
  | _ + 3 => rfl
/-- a move of the name is the move, but for names -/
theorem name_mv {m : Nat} {g : Glued} (h : Ok g) : name (mv m (name g)) = name (mv m g) := by
  obtain ⟨p, r⟩ := name_rel_of h
  exact name_rel (mv_ok h) (mv_ok (name_ok h)).toGl (mv_rel h.toGl (name_ok h).toGl r)
end Sq
set_option Elab.async false
set_option linter.unusedVariables false
namespace Sq
open Krct (Glued to from_ inverse after isPerm cycle cycleOf cycles)

/-! ## round and round -/
def it (f : Nat → Nat) : Nat → Nat → Nat
  | 0, s => s
  | k + 1, s => f (it f k s)
structure Inj (n : Nat) (f : Nat → Nat) : Prop where
  lt : ∀ s, s < n → f s < n
  inj : ∀ s t, s < n → t < n → f s = f t → s = t
theorem Inj.it_lt {n : Nat} {f : Nat → Nat} (h : Inj n f) {s : Nat} (hs : s < n) : ∀ k, it f k s < n
  | 0 => hs
  | k + 1 => h.lt _ (h.it_lt hs k)
theorem it_add (f : Nat → Nat) (s : Nat) : ∀ (a b : Nat), it f (a + b) s = it f a (it f b s)
  | 0, b => by rw [Nat.zero_add]; rfl
  | a + 1, b => by
    rw [show a + 1 + b = (a + b) + 1 by omega]
    show f (it f (a + b) s) = f (it f a (it f b s))
    rw [it_add f s a b]
theorem Inj.it_inj {n : Nat} {f : Nat → Nat} (h : Inj n f) : ∀ (k : Nat) {s t : Nat}, s < n → t < n → it f k s = it f k t → s = t
  | 0, _, _, _, _, e => e
  | k + 1, s, t, hs, ht, e => h.it_inj k hs ht (h.inj _ _ (h.it_lt hs k) (h.it_lt ht k) e)
/-- two alike: one came again -/
theorem Inj.again {n : Nat} {f : Nat → Nat} (h : Inj n f) {s : Nat} (hs : s < n) {i j : Nat} (hij : i < j) (e : it f i s = it f j s) : it f (j - i) s = s := by
  have : it f i s = it f i (it f (j - i) s) := by
    rw [← it_add, show i + (j - i) = j by omega]; exact e
  exact (h.it_inj i hs (h.it_lt hs _) this).symm
/-- the first p turns come to p squares, then the first comes again -/
structure Per (n : Nat) (f : Nat → Nat) (s p : Nat) : Prop where
  pos : 0 < p
  le : p ≤ n
  back : it f p s = s
  not : ∀ i, 0 < i → i < p → it f i s ≠ s
theorem least_of {P : Nat → Prop} [DecidablePred P] : ∀ (n : Nat), (∃ i, i < n ∧ P i) → ∃ i, i < n ∧ P i ∧ ∀ j, j < i → ¬ P j
  | 0, ⟨i, hi, _⟩ => absurd hi (Nat.not_lt_zero i)
  | n + 1, ⟨i, hi, hp⟩ => by
    by_cases c : ∃ i, i < n ∧ P i
    · obtain ⟨j, hj, h1, h2⟩ := least_of n c
      exact ⟨j, by omega, h1, h2⟩
    · have : i = n := by
        by_cases hin : i < n
        · exact absurd ⟨i, hin, hp⟩ c
        · omega
      exact ⟨i, hi, hp, fun j hj q => c ⟨j, by omega, q⟩⟩
theorem not_nodup_of_lt {n : Nat} {l : List Nat} (lt : ∀ x ∈ l, x < n) (h : n < l.length) : ¬ l.Nodup := fun nd => by
  have := List.Nodup.length_le_of_subset (l₂ := List.range n) nd (fun x hx => List.mem_range.mpr (lt x hx))
  rw [List.length_range] at this; omega
theorem Inj.period {n : Nat} {f : Nat → Nat} (h : Inj n f) {s : Nat} (hs : s < n) : ∃ p, Per n f s p := by
  have ex : ∃ i, i < n ∧ it f (i + 1) s = s := by
    apply Classical.byContradiction
    intro no
    have nd : ((List.range (n + 1)).map fun i => it f i s).Nodup := by
      rw [List.nodup_iff_pairwise_ne, List.pairwise_map]
      refine List.Pairwise.imp_of_mem ?_ (List.pairwise_lt_range (n := n + 1))
      intro a b ha hb hab e
      have hb' : b < n + 1 := List.mem_range.mp hb
      have := h.again hs hab e
      exact no ⟨b - a - 1, by omega, by rw [show b - a - 1 + 1 = b - a by omega]; exact this⟩
    exact not_nodup_of_lt (n := n) (fun x hx => by
      obtain ⟨i, _, rfl⟩ := List.mem_map.mp hx
      exact h.it_lt hs i) (by simp) nd
  obtain ⟨i, hi, e, no⟩ := least_of n ex
  exact ⟨i + 1, by omega, by omega, e, fun j h0 hj q => no (j - 1) (by omega) (by rw [show j - 1 + 1 = j by omega]; exact q)⟩
def turns (f : Nat → Nat) (s k : Nat) : List Nat := (List.range k).map fun i => it f i s
theorem turns_succ (f : Nat → Nat) (s k : Nat) : turns f s (k + 1) = turns f s k ++ [it f k s] := by
  unfold turns
  rw [List.range_succ, List.map_append]; rfl
theorem mem_turns {f : Nat → Nat} {s k x : Nat} : x ∈ turns f s k ↔ ∃ i, i < k ∧ it f i s = x := by
  unfold turns
  simp [List.mem_map, List.mem_range]
theorem turns_len (f : Nat → Nat) (s k : Nat) : (turns f s k).length = k := by unfold turns; simp
/-- within the period no square comes twice -/
theorem Per.not_in {n : Nat} {f : Nat → Nat} (h : Inj n f) {s p : Nat} (hs : s < n) (P : Per n f s p) {k : Nat} (hk : k < p) : it f k s ∉ turns f s k := fun q => by
  obtain ⟨i, hi, e⟩ := mem_turns.mp q
  exact P.not (k - i) (by omega) (by omega) (h.again hs hi e)
theorem cycle_step {f : Nat → Nat} {k : Nat} {l : List Nat} {s : Nat} : cycle f (k + 1) l s = if l.contains (f s) then l else cycle f k (l ++ [f s]) (f s) := rfl
theorem cycle_is {n : Nat} {f : Nat → Nat} (h : Inj n f) {s p : Nat} (hs : s < n) (P : Per n f s p) : ∀ (k j : Nat), j < p → p ≤ k + j → cycle f k (turns f s (j + 1)) (it f j s) = turns f s p
  | 0, j, h1, h2 => by omega
  | k + 1, j, h1, h2 => by
    rw [cycle_step]
    by_cases c : j + 1 = p
    · have : (turns f s (j + 1)).contains (f (it f j s)) = true := by
        have e : f (it f j s) = s := by
          have := P.back
          rw [← c] at this; exact this
        rw [e, List.contains_iff_mem]
        exact mem_turns.mpr ⟨0, by omega, rfl⟩
      rw [if_pos this, c]
    · have hj : j + 1 < p := by omega
      have : ¬ (turns f s (j + 1)).contains (f (it f j s)) = true := by
        rw [List.contains_iff_mem]
        exact P.not_in h hs hj
      rw [if_neg this]
      have e : turns f s (j + 1) ++ [f (it f j s)] = turns f s (j + 1 + 1) := by rw [turns_succ f s (j + 1)]; rfl
      rw [e]
      exact cycle_is h hs P k (j + 1) hj (by omega)
theorem cycleOf_is {n : Nat} {f : Nat → Nat} (h : Inj n f) {s p : Nat} (hs : s < n) (P : Per n f s p) : cycleOf n f s = turns f s p := by
  have := cycle_is h hs P n 0 P.pos (by have := P.le; omega)
  exact this
theorem self_mem_cycle {n : Nat} {f : Nat → Nat} (h : Inj n f) {s : Nat} (hs : s < n) : s ∈ cycleOf n f s := by
  obtain ⟨p, P⟩ := h.period hs
  rw [cycleOf_is h hs P]
  exact mem_turns.mpr ⟨0, P.pos, rfl⟩
theorem mem_cycle_lt {n : Nat} {f : Nat → Nat} (h : Inj n f) {s x : Nat} (hs : s < n) (hx : x ∈ cycleOf n f s) : x < n := by
  obtain ⟨p, P⟩ := h.period hs
  rw [cycleOf_is h hs P] at hx
  obtain ⟨i, _, rfl⟩ := mem_turns.mp hx
  exact h.it_lt hs i
theorem mem_cycle_iff {n : Nat} {f : Nat → Nat} (h : Inj n f) {s x : Nat} (hs : s < n) : x ∈ cycleOf n f s ↔ ∃ i, it f i s = x := by
  obtain ⟨p, P⟩ := h.period hs
  rw [cycleOf_is h hs P, mem_turns]
  constructor
  · rintro ⟨i, _, e⟩; exact ⟨i, e⟩
  · rintro ⟨i, e⟩
    have red : ∀ m, it f (m * p) s = s := by
      intro m
      induction m with
      | zero => rw [Nat.zero_mul]; rfl
      | succ m ih => rw [Nat.succ_mul, it_add, P.back, ih]
    refine ⟨i % p, Nat.mod_lt _ P.pos, ?_⟩
    rw [← e]
    have := Nat.mod_add_div i p
    conv => rhs; rw [← this, it_add, Nat.mul_comm p, red]
theorem cycle_symm {n : Nat} {f : Nat → Nat} (h : Inj n f) {s x : Nat} (hs : s < n) (hx : x ∈ cycleOf n f s) : s ∈ cycleOf n f x := by
  have hxn := mem_cycle_lt h hs hx
  obtain ⟨p, P⟩ := h.period hs
  rw [cycleOf_is h hs P] at hx
  obtain ⟨i, hi, e⟩ := mem_turns.mp hx
  rw [mem_cycle_iff h hxn]
  refine ⟨p - i, ?_⟩
  rw [← e, ← it_add, show p - i + i = p by omega]
  exact P.back
theorem cycle_trans {n : Nat} {f : Nat → Nat} (h : Inj n f) {s x y : Nat} (hs : s < n) (hx : x ∈ cycleOf n f s) (hy : y ∈ cycleOf n f x) : y ∈ cycleOf n f s := by
  have hxn := mem_cycle_lt h hs hx
  obtain ⟨i, e⟩ := (mem_cycle_iff h hs).mp hx
  obtain ⟨j, e'⟩ := (mem_cycle_iff h hxn).mp hy
  exact (mem_cycle_iff h hs).mpr ⟨j + i, by rw [it_add, e]; exact e'⟩
/-- the least of its round -/
def isLeast (n : Nat) (f : Nat → Nat) (s : Nat) : Bool := (cycleOf n f s).all fun x => decide (s ≤ x)
def leastRounds (n : Nat) (f : Nat → Nat) (k : Nat) : List (List Nat) := ((List.range k).filter (isLeast n f)).map (cycleOf n f)
theorem cycles_upto {n : Nat} {f : Nat → Nat} (h : Inj n f) : ∀ k, k ≤ n → (List.range k).foldl (fun l s => if l.any fun c => c.contains s then l else l ++ [cycleOf n f s]) [] = leastRounds n f k
  | 0, _ => rfl
  | k + 1, hk => by
    rw [List.range_succ, List.foldl_append, cycles_upto h k (by omega)]
    show (if (leastRounds n f k).any (fun c => c.contains k) then leastRounds n f k else leastRounds n f k ++ [cycleOf n f k]) = leastRounds n f (k + 1)
    have hkn : k < n := by omega
    have grow : leastRounds n f (k + 1) = leastRounds n f k ++ (if isLeast n f k then [cycleOf n f k] else []) := by
      unfold leastRounds
      rw [List.range_succ, List.filter_append, List.map_append, List.filter_cons, List.filter_nil]
      by_cases c : isLeast n f k = true
      · rw [if_pos c, if_pos c]; rfl
      · rw [if_neg c, if_neg c]; rfl
    rw [grow]
    have key : (leastRounds n f k).any (fun c => c.contains k) = !isLeast n f k := by
      rw [Bool.eq_iff_iff, List.any_eq_true]
      simp only [Bool.not_eq_true', List.contains_iff_mem]
      constructor
      · rintro ⟨c, hc, hkc⟩
        obtain ⟨t, ht, rfl⟩ := List.mem_map.mp hc
        have htk : t < k := List.mem_range.mp (List.mem_filter.mp ht).1
        have := cycle_symm h (by omega : t < n) hkc
        unfold isLeast
        rw [List.all_eq_false]
        exact ⟨t, this, by simpa using htk⟩
      · intro hn
        unfold isLeast at hn
        rw [List.all_eq_false] at hn
        obtain ⟨x, hx, hxk⟩ := hn
        have hxk' : x < k := by simpa using hxk
        -- the least of the round of k
        obtain ⟨m, hm, hP, hmin⟩ := least_of (P := fun y => y ∈ cycleOf n f k) k ⟨x, hxk', hx⟩
        have hmn : m < n := by omega
        refine ⟨cycleOf n f m, List.mem_map.mpr ⟨m, List.mem_filter.mpr ⟨List.mem_range.mpr hm, ?_⟩, rfl⟩, cycle_symm h hkn hP⟩
        unfold isLeast
        rw [List.all_eq_true]
        intro y hy
        have : y ∈ cycleOf n f k := cycle_trans h hkn hP hy
        have := fun hlt => hmin y hlt this
        simpa using this
    rw [key]
    cases isLeast n f k
    · simp
    · simp
theorem cycles_is {n : Nat} {f : Nat → Nat} (h : Inj n f) : cycles n f = leastRounds n f n := cycles_upto h n (Nat.le_refl n)
theorem Inj.to {n : Nat} {l : List Nat} (h : Prm n l) : Inj n (to l) := ⟨fun _ hs => h.to_lt hs, fun _ _ a b e => h.to_inj a b e⟩
end Sq
set_option Elab.async false
set_option linter.unusedVariables false
namespace Sq
open Krct (Glued to from_ inverse after name)
open Krcu (shear unshear turn)
/-! ## names that come, wheels -/
def nx (m : Nat) (x : Glued) : Glued := name (mv m x)
/-- x is a name -/
structure Nm (n : Nat) (x : Glued) : Prop where
  ok : Ok x
  n : x.n = n
  nm : name x = x
theorem name_nm {g : Glued} (h : Ok g) : Nm g.n (name g) := ⟨name_ok h, name_n h, name_name h⟩
theorem nx_nm {n m : Nat} {x : Glued} (h : Nm n x) : Nm n (nx m x) := by
  have := name_nm (mv_ok (m := m) h.ok)
  rw [mv_n, h.n] at this
  exact this
theorem unshear_shear {g : Glued} (h : Gl g) : unshear (shear g) = g := by
  refine glued_ext rfl rfl ?_
  refine ext_to (n := g.n) (unshear_gl (shear_gl h)).n.len h.n.len fun s hs => ?_
  rw [unshear_n (shear_gl h) hs]
  show to (shear g).north (to g.east s) = _
  rw [shear_n h (h.e.to_lt hs), h.e.from_to hs]
theorem nx_back {n : Nat} {x : Glued} (h : Nm n x) : nx 1 (nx 0 x) = x := by
  show name (mv 1 (name (mv 0 x))) = x
  rw [name_mv (mv_ok h.ok)]
  show name (unshear (shear x)) = x
  rw [unshear_shear h.ok.toGl, h.nm]
theorem nx_inj {n : Nat} {x y : Glued} (hx : Nm n x) (hy : Nm n y) (e : nx 0 x = nx 0 y) : x = y := by
  rw [← nx_back hx, ← nx_back hy, e]
/-- k shears -/
def shears : Nat → Glued → Glued
  | 0, g => g
  | k + 1, g => shear (shears k g)
theorem shears_n (g : Glued) : ∀ k, (shears k g).n = g.n
  | 0 => rfl
  | k + 1 => shears_n g k
theorem shears_east (g : Glued) : ∀ k, (shears k g).east = g.east
  | 0 => rfl
  | k + 1 => shears_east g k
theorem shears_ok {g : Glued} (h : Ok g) : ∀ k, Ok (shears k g)
  | 0 => h
  | k + 1 => shear_ok (shears_ok h k)
theorem from_inj {n : Nat} {l : List Nat} (h : Prm n l) : Inj n (from_ l) := ⟨fun _ hs => h.from_lt hs, fun _ _ a b e => h.from_inj a b e⟩
theorem shears_north {g : Glued} (h : Ok g) : ∀ (k s : Nat), s < g.n → to (shears k g).north s = to g.north (it (from_ g.east) k s)
  | 0, s, _ => rfl
  | k + 1, s, hs => by
    have hk := shears_ok h k
    show to (shear (shears k g)).north s = _
    rw [shear_n hk.toGl (by rw [shears_n]; exact hs), shears_east, shears_north h k _ (h.e.from_lt hs)]
    congr 1
    have := it_add (from_ g.east) s k 1
    rw [show it (from_ g.east) 1 s = from_ g.east s from rfl] at this
    rw [← this]
theorem it_mul {f : Nat → Nat} {s p : Nat} (h : it f p s = s) : ∀ m, it f (m * p) s = s
  | 0 => by rw [Nat.zero_mul]; rfl
  | m + 1 => by rw [Nat.succ_mul, it_add, h, it_mul h m]
/-- of at most six squares sixty shears are none -/
theorem shears_60 {g : Glued} (h : Ok g) (h6 : g.n ≤ 6) : shears 60 g = g := by
  refine glued_ext (shears_n g 60) (shears_east g 60) ?_
  refine ext_to (n := g.n) (by have := (shears_ok h 60).n.len; rw [shears_n] at this; exact this) h.n.len fun s hs => ?_
  rw [shears_north h 60 s hs]
  obtain ⟨p, P⟩ := (from_inj h.e).period hs
  have hp : ∃ m, 60 = m * p := by
    have h1 := P.pos
    have h2 := P.le
    obtain rfl | rfl | rfl | rfl | rfl | rfl : p = 1 ∨ p = 2 ∨ p = 3 ∨ p = 4 ∨ p = 5 ∨ p = 6 := by omega
    · exact ⟨60, rfl⟩
    · exact ⟨30, rfl⟩
    · exact ⟨20, rfl⟩
    · exact ⟨15, rfl⟩
    · exact ⟨12, rfl⟩
    · exact ⟨10, rfl⟩
  obtain ⟨m, e⟩ := hp
  rw [e, it_mul P.back]
/-- the k-th name of the wheel -/
def wh (x : Glued) : Nat → Glued
  | 0 => x
  | k + 1 => nx 0 (wh x k)
theorem wh_nm {n : Nat} {x : Glued} (h : Nm n x) : ∀ k, Nm n (wh x k)
  | 0 => h
  | k + 1 => nx_nm (wh_nm h k)
theorem wh_shears {n : Nat} {x : Glued} (h : Nm n x) : ∀ k, wh x k = name (shears k x)
  | 0 => h.nm.symm
  | k + 1 => by
    show name (mv 0 (wh x k)) = name (shear (shears k x))
    rw [wh_shears h k, name_mv (shears_ok h.ok k)]; rfl
theorem wh_60 {n : Nat} {x : Glued} (h : Nm n x) (h6 : n ≤ 6) : wh x 60 = x := by
  rw [wh_shears h, shears_60 h.ok (by rw [h.n]; exact h6), h.nm]
theorem wh_add {x : Glued} : ∀ a b, wh x (a + b) = wh (wh x b) a
  | 0, b => by rw [Nat.zero_add]; rfl
  | a + 1, b => by
    rw [show a + 1 + b = (a + b) + 1 by omega]
    show nx 0 (wh x (a + b)) = nx 0 (wh (wh x b) a)
    rw [wh_add a b]
theorem wh_inj {n : Nat} {x y : Glued} (hx : Nm n x) (hy : Nm n y) : ∀ k, wh x k = wh y k → x = y
  | 0, e => e
  | k + 1, e => wh_inj hx hy k (nx_inj (wh_nm hx k) (wh_nm hy k) e)
/-- the wheel has p names -/
structure WPer (x : Glued) (p : Nat) : Prop where
  pos : 0 < p
  le : p ≤ 60
  back : wh x p = x
  not : ∀ i, 0 < i → i < p → wh x i ≠ x
theorem wper {n : Nat} {x : Glued} (h : Nm n x) (h6 : n ≤ 6) : ∃ p, WPer x p := by
  obtain ⟨i, hi, e, no⟩ := least_of (P := fun i => wh x (i + 1) = x) 60 ⟨59, by omega, wh_60 h h6⟩
  exact ⟨i + 1, by omega, by omega, e, fun j h0 hj q => no (j - 1) (by omega) (by rw [show j - 1 + 1 = j by omega]; exact q)⟩
def whs (x : Glued) (k : Nat) : List Glued := (List.range k).map (wh x)
theorem whs_succ (x : Glued) (k : Nat) : whs x (k + 1) = whs x k ++ [wh x k] := by
  unfold whs; rw [List.range_succ, List.map_append]; rfl
theorem mem_whs {x y : Glued} {k : Nat} : y ∈ whs x k ↔ ∃ i, i < k ∧ wh x i = y := by
  unfold whs; simp [List.mem_map, List.mem_range]
theorem whs_len (x : Glued) (k : Nat) : (whs x k).length = k := by unfold whs; simp
theorem WPer.not_in {n : Nat} {x : Glued} (h : Nm n x) {p k : Nat} (P : WPer x p) (hk : k < p) : wh x k ∉ whs x k := fun q => by
  obtain ⟨i, hi, e⟩ := mem_whs.mp q
  have e1 : wh x k = wh (wh x (k - i)) i := by rw [← wh_add, show i + (k - i) = k by omega]
  rw [e1] at e
  exact P.not (k - i) (by omega) (by omega) (wh_inj h (wh_nm h _) i e).symm
theorem wheel_is {n : Nat} {x : Glued} (h : Nm n x) {p : Nat} (P : WPer x p) : ∀ k j, j < p → p ≤ k + j → Krcv.wheel k (whs x (j + 1)) (wh x j) = whs x p
  | 0, j, h1, h2 => by omega
  | k + 1, j, h1, h2 => by
    show (if (whs x (j + 1)).contains (nx 0 (wh x j)) then whs x (j + 1) else Krcv.wheel k (whs x (j + 1) ++ [nx 0 (wh x j)]) (nx 0 (wh x j))) = whs x p
    by_cases c : j + 1 = p
    · have e : nx 0 (wh x j) = x := by
        have := P.back
        rw [← c] at this; exact this
      rw [if_pos (by rw [e, List.contains_iff_mem]; exact mem_whs.mpr ⟨0, by omega, rfl⟩), c]
    · have hj : j + 1 < p := by omega
      rw [if_neg (by rw [List.contains_iff_mem]; exact P.not_in h hj)]
      have e : whs x (j + 1) ++ [nx 0 (wh x j)] = whs x (j + 1 + 1) := by rw [whs_succ x (j + 1)]; rfl
      rw [e]
      exact wheel_is h P k (j + 1) hj (by omega)
theorem wheelOf_is {n : Nat} {x : Glued} (h : Nm n x) {p : Nat} (P : WPer x p) : Krcv.wheelOf x = whs x p := by
  unfold Krcv.wheelOf
  rw [h.nm]
  exact wheel_is h P Krcv.mostFound 0 P.pos (by have := P.le; show p ≤ 120 + 0; omega)
theorem wheelOf_name {g : Glued} (h : Ok g) : Krcv.wheelOf g = Krcv.wheelOf (name g) := by
  unfold Krcv.wheelOf
  rw [name_name h]
end Sq
set_option Elab.async false
set_option linter.unusedVariables false
namespace Sq
open Krct (Glued to from_ inverse after name)
/-! ## all that come -/
/-- some row of moves leads to it -/
inductive Reach (a : Glued) : Glued → Prop where
  | refl : Reach a a
  | step {x : Glued} (m : Nat) : Reach a x → m < 3 → Reach a (nx m x)
theorem Reach.nm {n : Nat} {a x : Glued} (h : Nm n a) (r : Reach a x) : Nm n x := by
  induction r with
  | refl => exact h
  | step m _ _ ih => exact nx_nm ih
theorem Reach.closed {a x : Glued} {l : List Glued} (h0 : a ∈ l) (hc : ∀ y ∈ l, ∀ m, m < 3 → nx m y ∈ l) (r : Reach a x) : x ∈ l := by
  induction r with
  | refl => exact h0
  | step m _ hm ih => exact hc _ ih m hm
/-- those of cs that are not in done, each once, in their order -/
def freshOf (done cs : List Glued) : List Glued := cs.foldl (fun l g => if done.contains g || l.contains g then l else l ++ [g]) []
theorem fresh_fold (done : List Glued) : ∀ (cs acc : List Glued), acc.Nodup → (∀ x ∈ acc, x ∉ done) →
    (cs.foldl (fun l g => if done.contains g || l.contains g then l else l ++ [g]) acc).Nodup ∧ (∀ x, x ∈ cs.foldl (fun l g => if done.contains g || l.contains g then l else l ++ [g]) acc ↔ x ∈ acc ∨ (x ∈ cs ∧ x ∉ done))
  | [], acc, nd, _ => ⟨nd, fun x => by simp⟩
  | c :: cs, acc, nd, hn => by
    rw [List.foldl_cons]
    by_cases h : (done.contains c || acc.contains c) = true
    · rw [if_pos h]
      obtain ⟨i1, i2⟩ := fresh_fold done cs acc nd hn
      refine ⟨i1, fun x => ?_⟩
      rw [i2 x]
      have h' : c ∈ done ∨ c ∈ acc := by simpa using h
      constructor
      · rintro (q | ⟨q1, q2⟩)
        · exact .inl q
        · exact .inr ⟨List.mem_cons_of_mem _ q1, q2⟩
      · rintro (q | ⟨q1, q2⟩)
        · exact .inl q
        · rcases List.mem_cons.mp q1 with rfl | q1
          · exact h'.elim (fun z => absurd z q2) .inl
          · exact .inr ⟨q1, q2⟩
    · rw [if_neg h]
      have h' : c ∉ done ∧ c ∉ acc := by simpa using h
      obtain ⟨i1, i2⟩ := fresh_fold done cs (acc ++ [c]) (by
        rw [List.nodup_append]
        exact ⟨nd, by simp, by intro a ha b hb e; simp at hb; subst hb; exact h'.2 (e ▸ ha)⟩) (fun x hx => by
        rcases List.mem_append.mp hx with q | q
        · exact hn x q
        · simp at q; subst q; exact h'.1)
      refine ⟨i1, fun x => ?_⟩
      rw [i2 x]
      constructor
      · rintro (q | ⟨q1, q2⟩)
        · rcases List.mem_append.mp q with q | q
          · exact .inl q
          · simp at q; subst q; exact .inr ⟨by simp, h'.1⟩
        · exact .inr ⟨List.mem_cons_of_mem _ q1, q2⟩
      · rintro (q | ⟨q1, q2⟩)
        · exact .inl (List.mem_append_left _ q)
        · rcases List.mem_cons.mp q1 with rfl | q1
          · exact .inl (by simp)
          · exact .inr ⟨q1, q2⟩
theorem fresh_nd (done cs : List Glued) : (freshOf done cs).Nodup := (fresh_fold done cs [] (by simp) (by simp)).1
theorem fresh_mem {done cs : List Glued} {x : Glued} : x ∈ freshOf done cs ↔ x ∈ cs ∧ x ∉ done := by
  have := (fresh_fold done cs [] (by simp) (by simp)).2 x
  unfold freshOf
  rw [this]
  exact ⟨fun h => h.elim (fun z => by cases z) id, .inr⟩
/-- what comes of a layer by one move -/
def nexts3 (layer : List Glued) : List Glued := layer.flatMap fun g => [nx 0 g, nx 1 g, nx 2 g]
theorem nexts3_mem {layer : List Glued} {y : Glued} : y ∈ nexts3 layer ↔ ∃ x ∈ layer, ∃ m, m < 3 ∧ y = nx m x := by
  unfold nexts3
  rw [List.mem_flatMap]
  constructor
  · rintro ⟨x, hx, hy⟩
    refine ⟨x, hx, ?_⟩
    simp only [List.mem_cons, List.not_mem_nil, or_false] at hy
    rcases hy with rfl | rfl | rfl
    · exact ⟨0, by omega, rfl⟩
    · exact ⟨1, by omega, rfl⟩
    · exact ⟨2, by omega, rfl⟩
  · rintro ⟨x, hx, m, hm, rfl⟩
    refine ⟨x, hx, ?_⟩
    obtain rfl | rfl | rfl : m = 0 ∨ m = 1 ∨ m = 2 := by omega
    all_goals simp
theorem spread_step (k : Nat) (done layer : List Glued) : Krcv.spread (k + 1) done layer =
    if (freshOf done (nexts3 layer)).isEmpty then some done else if 120 < done.length + (freshOf done (nexts3 layer)).length then none else Krcv.spread k (done ++ freshOf done (nexts3 layer)) (freshOf done (nexts3 layer)) := rfl
structure Spr (a : Glued) (done layer : List Glued) : Prop where
  nd : done.Nodup
  re : ∀ x ∈ done, Reach a x
  here : a ∈ done
  sub : ∀ x ∈ layer, x ∈ done
  cl : ∀ x ∈ done, x ∉ layer → ∀ m, m < 3 → nx m x ∈ done
theorem Spr.next {a : Glued} {done layer : List Glued} (h : Spr a done layer) : Spr a (done ++ freshOf done (nexts3 layer)) (freshOf done (nexts3 layer)) := by
  refine ⟨?_, ?_, List.mem_append_left _ h.here, fun x hx => List.mem_append_right _ hx, ?_⟩
  · rw [List.nodup_append]
    exact ⟨h.nd, fresh_nd _ _, fun x hx y hy e => (fresh_mem.mp hy).2 (e ▸ hx)⟩
  · intro x hx
    rcases List.mem_append.mp hx with q | q
    · exact h.re x q
    · obtain ⟨y, hy, m, hm, rfl⟩ := nexts3_mem.mp (fresh_mem.mp q).1
      exact .step m (h.re y (h.sub y hy)) hm
  · intro x hx hn m hm
    rcases List.mem_append.mp hx with q | q
    · by_cases c : x ∈ layer
      · by_cases d : nx m x ∈ done
        · exact List.mem_append_left _ d
        · exact List.mem_append_right _ (fresh_mem.mpr ⟨nexts3_mem.mpr ⟨x, c, m, hm, rfl⟩, d⟩)
      · exact List.mem_append_left _ (h.cl x q c m hm)
    · exact absurd q hn
/-- all that come are told, each once; or there are more than 120 -/
theorem spread_ok {a : Glued} : ∀ (k : Nat) (done layer : List Glued), Spr a done layer → done.length ≤ 120 → 121 < k + done.length →
    (∃ l, Krcv.spread k done layer = some l ∧ l.Nodup ∧ (∀ x, x ∈ l ↔ Reach a x) ∧ l.length ≤ 120) ∨ (Krcv.spread k done layer = none ∧ ∃ l : List Glued, l.Nodup ∧ (∀ x ∈ l, Reach a x) ∧ 120 < l.length)
  | 0, done, layer, _, h1, h2 => by omega
  | k + 1, done, layer, S, h1, h2 => by
    rw [spread_step]
    by_cases c : (freshOf done (nexts3 layer)).isEmpty = true
    · rw [if_pos c]
      have e : freshOf done (nexts3 layer) = [] := List.isEmpty_iff.mp c
      refine .inl ⟨done, rfl, S.nd, fun x => ⟨S.re x, fun r => r.closed S.here fun y hy m hm => ?_⟩, h1⟩
      by_cases hl : y ∈ layer
      · apply Classical.byContradiction
        intro d
        have : nx m y ∈ freshOf done (nexts3 layer) := fresh_mem.mpr ⟨nexts3_mem.mpr ⟨y, hl, m, hm, rfl⟩, d⟩
        rw [e] at this; cases this
      · exact S.cl y hy hl m hm
    · rw [if_neg c]
      have N := S.next
      by_cases c2 : 120 < done.length + (freshOf done (nexts3 layer)).length
      · rw [if_pos c2]
        exact .inr ⟨rfl, _, N.nd, N.re, by rw [List.length_append]; exact c2⟩
      · rw [if_neg c2]
        have : 0 < (freshOf done (nexts3 layer)).length := by
          cases e : freshOf done (nexts3 layer) with
          | nil => rw [e] at c; exact absurd rfl c
          | cons _ _ => simp
        exact spread_ok k _ _ N (by rw [List.length_append]; omega) (by rw [List.length_append]; omega)
theorem orbit_ok (g : Glued) : (∃ l, Krcv.orbit g = some l ∧ l.Nodup ∧ (∀ x, x ∈ l ↔ Reach (name g) x) ∧ l.length ≤ 120) ∨ (Krcv.orbit g = none ∧ ∃ l : List Glued, l.Nodup ∧ (∀ x ∈ l, Reach (name g) x) ∧ 120 < l.length) :=
  spread_ok (Krcv.mostFound + 1) [name g] [name g] ⟨by simp, by simp; exact .refl, by simp, by simp, by simp⟩ (by simp) (by show 121 < 120 + 1 + 1; omega)
end Sq
set_option Elab.async false
set_option linter.unusedVariables false
namespace Sq
open Krct (Glued to from_ inverse after name)
open Krcv (Node nexts fresh search mostFound)
/-! ## one behind another: as the program goes through them -/
def hasN (l : List Node) (x : Glued) : Bool := l.any fun y => y.g == x
def pushN (l : List Node) (x : Node) : List Node := if hasN l x.g then l else l ++ [x]
def addN (l : List Node) (x : Node) : List Node := (nexts x).foldl pushN l
def bfs (a : Glued) : Nat → List Node
  | 0 => [⟨a, []⟩]
  | i + 1 => match (bfs a i)[i]? with
    | none => bfs a i
    | some x => addN (bfs a i) x
def namesN (l : List Node) : List Glued := l.map Node.g
theorem bfs_none {a : Glued} {i : Nat} (h : (bfs a i)[i]? = none) : bfs a (i + 1) = bfs a i := by
  show (match (bfs a i)[i]? with | none => bfs a i | some x => addN (bfs a i) x) = _
  rw [h]
theorem bfs_some {a : Glued} {i : Nat} {x : Node} (h : (bfs a i)[i]? = some x) : bfs a (i + 1) = addN (bfs a i) x := by
  show (match (bfs a i)[i]? with | none => bfs a i | some x => addN (bfs a i) x) = _
  rw [h]
theorem nexts_is (x : Node) : nexts x = [⟨nx 0 x.g, x.way ++ [0]⟩, ⟨nx 1 x.g, x.way ++ [1]⟩, ⟨nx 2 x.g, x.way ++ [2]⟩] := rfl
theorem hasN_iff {l : List Node} {x : Glued} : hasN l x = true ↔ x ∈ namesN l := by
  unfold hasN namesN
  rw [List.any_eq_true, List.mem_map]
  constructor
  · rintro ⟨y, hy, e⟩; exact ⟨y, hy, beq_iff_eq.mp e⟩
  · rintro ⟨y, hy, e⟩; exact ⟨y, hy, beq_iff_eq.mpr e⟩
theorem hasN_names (l : List Node) (x : Glued) : hasN l x = (namesN l).contains x := by
  rw [Bool.eq_iff_iff, hasN_iff, List.contains_iff_mem]
theorem hasN_append (l k : List Node) (x : Glued) : hasN (l ++ k) x = (hasN l x || hasN k x) := by
  unfold hasN; rw [List.any_append]
theorem pushN_has {l : List Node} {x : Node} (h : hasN l x.g = true) : pushN l x = l := by unfold pushN; rw [if_pos h]
theorem pushN_new {l : List Node} {x : Node} (h : hasN l x.g = false) : pushN l x = l ++ [x] := by unfold pushN; rw [h]; rfl
def stepF (seen : List Glued) (k : List Node) (x : Node) : List Node := if seen.contains x.g || (k.any fun y => y.g == x.g) then k else k ++ [x]
theorem fresh_is (seen : List Glued) (l : List Node) : fresh seen l = l.foldl (stepF seen) [] := rfl
theorem push_step (S k : List Node) (x : Node) : pushN (S ++ k) x = S ++ stepF (namesN S) k x := by
  unfold pushN stepF
  rw [hasN_append, hasN_names S]
  show (if ((namesN S).contains x.g || hasN k x.g) = true then S ++ k else S ++ k ++ [x]) = S ++ (if ((namesN S).contains x.g || hasN k x.g) = true then k else k ++ [x])
  by_cases c : ((namesN S).contains x.g || hasN k x.g) = true
  · rw [if_pos c, if_pos c]
  · rw [if_neg c, if_neg c, List.append_assoc]
theorem push_fold (S : List Node) : ∀ (L k : List Node), L.foldl pushN (S ++ k) = S ++ L.foldl (stepF (namesN S)) k
  | [], k => rfl
  | x :: L, k => by rw [List.foldl_cons, List.foldl_cons, push_step, push_fold S L]
theorem bfs_layer {a : Glued} {done layer : List Node} (h : bfs a done.length = done ++ layer) : ∀ j, j ≤ layer.length →
    bfs a (done.length + j) = done ++ layer ++ fresh (namesN (done ++ layer)) ((layer.take j).flatMap nexts)
  | 0, _ => by
    rw [Nat.add_zero, h, List.take_zero]
    exact (List.append_nil _).symm
  | j + 1, hj => by
    have ih := bfs_layer h j (by omega)
    have hl : j < layer.length := by omega
    have e : (bfs a (done.length + j))[done.length + j]? = some layer[j] := by
      rw [ih, List.append_assoc, List.getElem?_append_right (by omega), Nat.add_sub_cancel_left, List.getElem?_append_left hl, List.getElem?_eq_getElem hl]
    rw [← Nat.add_assoc, bfs_some e, ih, List.take_add_one, List.getElem?_eq_getElem hl]
    unfold addN
    rw [push_fold, List.flatMap_append, fresh_is, fresh_is, List.foldl_append]
    simp
theorem bfs_next {a : Glued} {done layer : List Node} (h : bfs a done.length = done ++ layer) :
    bfs a (done ++ layer).length = (done ++ layer) ++ fresh (namesN (done ++ layer)) (layer.flatMap nexts) := by
  have := bfs_layer h layer.length (Nat.le_refl _)
  rw [List.take_length] at this
  rw [List.length_append]; exact this
theorem pushN_pre (l : List Node) (x : Node) : l <+: pushN l x := by
  cases c : hasN l x.g
  · rw [pushN_new c]; exact List.prefix_append _ _
  · rw [pushN_has c]; exact List.prefix_refl _
theorem foldN_pre : ∀ (L l : List Node), l <+: L.foldl pushN l
  | [], l => List.prefix_refl _
  | x :: L, l => (pushN_pre l x).trans (foldN_pre L _)
theorem bfs_pre1 (a : Glued) (i : Nat) : bfs a i <+: bfs a (i + 1) := by
  cases e : (bfs a i)[i]? with
  | none => rw [bfs_none e]; exact List.prefix_refl _
  | some x => rw [bfs_some e]; exact foldN_pre _ _
theorem bfs_pre (a : Glued) (i : Nat) : ∀ j, bfs a i <+: bfs a (i + j)
  | 0 => List.prefix_refl _
  | j + 1 => (bfs_pre a i j).trans (bfs_pre1 a (i + j))
theorem bfs_stop {a : Glued} {T : Nat} (h : (bfs a T).length ≤ T) : ∀ j, bfs a (T + j) = bfs a T
  | 0 => rfl
  | j + 1 => by
    have ih := bfs_stop h j
    rw [← Nat.add_assoc, bfs_none, ih]
    rw [ih]; exact List.getElem?_eq_none_iff.mpr (by omega)
theorem bfs_same {a : Glued} {T S : Nat} (h : (bfs a T).length ≤ T) (k : (bfs a S).length ≤ S) : bfs a S = bfs a T := by
  rcases Nat.le_total S T with c | c
  · have := bfs_stop k (T - S)
    rw [show S + (T - S) = T by omega] at this; exact this.symm
  · have := bfs_stop h (S - T)
    rw [show T + (S - T) = S by omega] at this; exact this
theorem bfs_all {a : Glued} {T : Nat} (h : (bfs a T).length ≤ T) (i : Nat) : bfs a i <+: bfs a T := by
  rcases Nat.le_total i T with c | c
  · have := bfs_pre a i (T - i)
    rw [show i + (T - i) = T by omega] at this; exact this
  · have := bfs_stop h (i - T)
    rw [show T + (i - T) = i by omega] at this
    rw [this]; exact List.prefix_refl _
/-- each name once, and some row of moves leads to it -/
structure BOk (a : Glued) (l : List Node) : Prop where
  nd : (namesN l).Nodup
  re : ∀ x ∈ l, Reach a x.g
theorem BOk.push {a : Glued} {l : List Node} {x : Node} (h : BOk a l) (hx : Reach a x.g) : BOk a (pushN l x) := by
  cases c : hasN l x.g
  · rw [pushN_new c]
    refine ⟨?_, fun y hy => ?_⟩
    · have : x.g ∉ namesN l := fun q => by rw [hasN_iff.mpr q] at c; cases c
      unfold namesN at this ⊢
      rw [List.map_append, List.nodup_append]
      exact ⟨h.nd, by simp, by intro u hu v hv e; simp at hv; subst hv; exact this (e ▸ hu)⟩
    · rcases List.mem_append.mp hy with q | q
      · exact h.re y q
      · simp at q; subst q; exact hx
  · rw [pushN_has c]; exact h
theorem BOk.fold {a : Glued} : ∀ {L l : List Node}, BOk a l → (∀ x ∈ L, Reach a x.g) → BOk a (L.foldl pushN l)
  | [], l, h, _ => h
  | x :: L, l, h, hL => by
    rw [List.foldl_cons]
    exact BOk.fold (h.push (hL x (by simp))) (fun y hy => hL y (by simp [hy]))
theorem nexts_reach {a : Glued} {x : Node} (h : Reach a x.g) : ∀ y ∈ nexts x, Reach a y.g := fun y hy => by
  rw [nexts_is] at hy
  simp only [List.mem_cons, List.not_mem_nil, or_false] at hy
  rcases hy with rfl | rfl | rfl
  · exact .step 0 h (by omega)
  · exact .step 1 h (by omega)
  · exact .step 2 h (by omega)
theorem bfs_ok (a : Glued) : ∀ i, BOk a (bfs a i)
  | 0 => ⟨by show [a].Nodup; simp, fun x hx => by
      have : x = ⟨a, []⟩ := by simpa [bfs] using hx
      rw [this]; exact .refl⟩
  | i + 1 => by
    have ih := bfs_ok a i
    cases e : (bfs a i)[i]? with
    | none => rw [bfs_none e]; exact ih
    | some x =>
      rw [bfs_some e]
      exact ih.fold (nexts_reach (ih.re x (List.mem_of_getElem? e)))
/-! ## the specification's layers -/
theorem fresh_names (S : List Glued) : ∀ (L k : List Node), namesN (L.foldl (stepF S) k) = (namesN L).foldl (fun l g => if S.contains g || l.contains g then l else l ++ [g]) (namesN k)
  | [], k => rfl
  | x :: L, k => by
    rw [List.foldl_cons, fresh_names S L]
    show _ = List.foldl _ (if (S.contains x.g || (namesN k).contains x.g) = true then namesN k else namesN k ++ [x.g]) (namesN L)
    congr 1
    unfold stepF
    show namesN (if (S.contains x.g || hasN k x.g) = true then k else k ++ [x]) = _
    rw [hasN_names]
    by_cases c : (S.contains x.g || (namesN k).contains x.g) = true
    · rw [if_pos c, if_pos c]
    · rw [if_neg c, if_neg c]; unfold namesN; rw [List.map_append]; rfl
theorem nexts_names : ∀ layer : List Node, namesN (layer.flatMap nexts) = nexts3 (namesN layer)
  | [] => rfl
  | x :: l => by
    have ih := nexts_names l
    unfold namesN nexts3 at ih ⊢
    rw [List.flatMap_cons, List.map_append, ih, List.map_cons, List.flatMap_cons]
    rfl
theorem fresh_layer (D layer : List Node) : freshOf (namesN D) (nexts3 (namesN layer)) = namesN (fresh (namesN D) (layer.flatMap nexts)) := by
  rw [fresh_is, fresh_names, nexts_names]; rfl
theorem namesN_append (l k : List Node) : namesN (l ++ k) = namesN l ++ namesN k := by unfold namesN; rw [List.map_append]
theorem namesN_len (l : List Node) : (namesN l).length = l.length := by unfold namesN; rw [List.length_map]
theorem spread_is {a : Glued} {T : Nat} (hT : (bfs a T).length ≤ T) (h120 : (bfs a T).length ≤ 120) : ∀ (k : Nat) (done layer : List Node), bfs a done.length = done ++ layer → 121 < k + (done ++ layer).length →
    Krcv.spread k (namesN (done ++ layer)) (namesN layer) = some (namesN (bfs a T))
  | 0, done, layer, h, hk => by
    have := (bfs_all hT done.length).length_le
    rw [h] at this; omega
  | k + 1, done, layer, h, hk => by
    have hn := bfs_next h
    rw [spread_step, fresh_layer]
    generalize eN : fresh (namesN (done ++ layer)) (layer.flatMap nexts) = new at hn ⊢
    have hp := (bfs_all hT (done ++ layer).length).length_le
    rw [hn, List.length_append] at hp
    cases new with
    | nil =>
      rw [if_pos (by rfl)]
      rw [List.append_nil] at hn
      rw [← bfs_same hT (S := (done ++ layer).length) (by rw [hn]; exact Nat.le_refl _), hn]
    | cons x new =>
      rw [if_neg (by simp [namesN]), if_neg (by rw [namesN_len, namesN_len]; omega), ← namesN_append]
      exact spread_is hT h120 k (done ++ layer) (x :: new) hn (by rw [List.length_append (as := done ++ layer), List.length_cons]; omega)
theorem orbit_is {g : Glued} {T : Nat} (hT : (bfs (name g) T).length ≤ T) (h120 : (bfs (name g) T).length ≤ 120) : Krcv.orbit g = some (namesN (bfs (name g) T)) :=
  spread_is hT h120 121 [] [⟨name g, []⟩] rfl (by simp)
theorem orbit_many {g : Glued} {T : Nat} (h : 120 < (bfs (name g) T).length) : Krcv.orbit g = none := by
  rcases orbit_ok g with ⟨l, e, nd, hm, hl⟩ | ⟨e, _⟩
  · exfalso
    have B := bfs_ok (name g) T
    have := List.Nodup.length_le_of_subset (l₂ := l) B.nd (fun x hx => by
      obtain ⟨y, hy, rfl⟩ := List.mem_map.mp hx
      exact (hm _).mpr (B.re y hy))
    rw [namesN_len] at this; omega
  · exact e
theorem find_append {α : Type} {p : α → Bool} : ∀ {l : List α}, (∀ x ∈ l, p x = false) → ∀ k : List α, (l ++ k).find? p = k.find? p
  | [], _, k => rfl
  | x :: l, h, k => by
    rw [List.cons_append, List.find?_cons, h x (by simp)]
    exact find_append (fun y hy => h y (by simp [hy])) k
theorem find_pre {α : Type} {p : α → Bool} {l k : List α} {x : α} (h : l <+: k) (e : l.find? p = some x) : k.find? p = some x := by
  obtain ⟨r, rfl⟩ := h
  rw [List.find?_append, e]; rfl
theorem search_is {a t : Glued} {T : Nat} (hT : (bfs a T).length ≤ T) (h120 : (bfs a T).length ≤ 120) (ht : t ∈ namesN (bfs a T)) : ∀ (k : Nat) (done layer : List Node), bfs a done.length = done ++ layer → t ∉ namesN done → 121 < k + (done ++ layer).length →
    search t k (namesN (done ++ layer)) layer = ((bfs a T).find? fun x => x.g == t).map Node.way
  | 0, done, layer, h, _, hk => by
    have := (bfs_all hT done.length).length_le
    rw [h] at this; omega
  | k + 1, done, layer, h, hd, hk => by
    have hn := bfs_next h
    have nod : ∀ x ∈ done, (x.g == t) = false := fun x hx => by
      rw [beq_eq_false_iff_ne]
      exact fun e => hd (List.mem_map.mpr ⟨x, hx, e⟩)
    show (match layer.find? (fun x => x.g == t) with
      | some x => some x.way
      | none => if ((fresh (namesN (done ++ layer)) (layer.flatMap nexts)).isEmpty || decide (mostFound < (namesN (done ++ layer)).length)) = true then none
        else search t k (namesN (done ++ layer) ++ (fresh (namesN (done ++ layer)) (layer.flatMap nexts)).map Node.g) (fresh (namesN (done ++ layer)) (layer.flatMap nexts))) = _
    cases e : layer.find? (fun x => x.g == t) with
    | some x =>
      have e2 : (done ++ layer).find? (fun x => x.g == t) = some x := by rw [find_append nod]; exact e
      have hp := bfs_all hT done.length
      rw [h] at hp
      rw [find_pre hp e2]; rfl
    | none =>
      generalize eN : fresh (namesN (done ++ layer)) (layer.flatMap nexts) = new at hn ⊢
      have hp := (bfs_all hT (done ++ layer).length).length_le
      rw [hn, List.length_append] at hp
      have hno : t ∉ namesN (done ++ layer) := by
        rw [namesN_append]
        intro q
        rcases List.mem_append.mp q with q | q
        · exact hd q
        · obtain ⟨x, hx, ex⟩ := List.mem_map.mp q
          have := List.find?_eq_none.mp e x hx
          exact this (by rw [ex]; exact beq_self_eq_true t)
      cases new with
      | nil =>
        exfalso
        rw [List.append_nil] at hn
        rw [← bfs_same hT (S := (done ++ layer).length) (by rw [hn]; exact Nat.le_refl _), hn] at ht
        exact hno ht
      | cons x new =>
        rw [if_neg]
        · have := search_is hT h120 ht k (done ++ layer) (x :: new) hn hno (by rw [List.length_append (as := done ++ layer), List.length_cons]; omega)
          rw [namesN_append] at this
          exact this
        · rw [namesN_len]
          have : ¬ mostFound < (done ++ layer).length := by show ¬ 120 < _; omega
          rw [decide_eq_false this]; simp
theorem find_idx (t : Glued) : ∀ l : List Node, (l.find? fun x => x.g == t) = l[(namesN l).idxOf t]?
  | [] => rfl
  | x :: l => by
    show _ = (x :: l)[(x.g :: namesN l).idxOf t]?
    rw [List.find?_cons, List.idxOf_cons]
    cases c : x.g == t with
    | true => rfl
    | false => exact find_idx t l
theorem way_is {g t : Glued} {T : Nat} (hT : (bfs (name g) T).length ≤ T) (h120 : (bfs (name g) T).length ≤ 120) (ht : name t ∈ namesN (bfs (name g) T)) :
    Krcv.way g t = ((bfs (name g) T)[(namesN (bfs (name g) T)).idxOf (name t)]?).map Node.way := by
  have := search_is hT h120 ht 121 [] [⟨name g, []⟩] rfl (by simp [namesN]) (by simp)
  rw [find_idx] at this
  exact this
end Sq
set_option Elab.async false
set_option linter.unusedVariables false
namespace Sq
open Krct (Glued to from_ inverse after name cycleOf cycles less)
/-! ## wheels, by places -/
def at_ (L : List Glued) (s : Nat) : Glued := L.getD s ⟨0, [], []⟩
theorem at_get {L : List Glued} {s : Nat} (h : s < L.length) : at_ L s = L[s] := by
  unfold at_; simp [List.getD, h]
theorem at_some {L : List Glued} {s : Nat} (h : s < L.length) : L[s]? = some (at_ L s) := by
  rw [at_get h, List.getElem?_eq_getElem h]
theorem at_mem {L : List Glued} {s : Nat} (h : s < L.length) : at_ L s ∈ L := by
  rw [at_get h]; exact List.getElem_mem h
theorem at_inj {L : List Glued} (nd : L.Nodup) {s t : Nat} (hs : s < L.length) (ht : t < L.length) (e : at_ L s = at_ L t) : s = t := by
  rw [at_get hs, at_get ht] at e
  have h1 := nd.idxOf_getElem s hs
  have h2 := nd.idxOf_getElem t ht
  rw [← h1, ← h2, e]
theorem at_idx {L : List Glued} {x : Glued} (h : x ∈ L) : at_ L (L.idxOf x) = x := by
  have hl : L.idxOf x < L.length := List.idxOf_lt_length_iff.mpr h
  rw [at_get hl]; exact List.getElem_idxOf hl
def stepsOf (L : List Glued) : List Nat := L.map fun x => L.idxOf (nx 0 x)
structure Whl (n : Nat) (L : List Glued) : Prop where
  nm : ∀ x ∈ L, Nm n x
  nd : L.Nodup
  cl : ∀ x ∈ L, nx 0 x ∈ L
theorem stepsOf_len (L : List Glued) : (stepsOf L).length = L.length := by unfold stepsOf; rw [List.length_map]
theorem to_steps {L : List Glued} {s : Nat} (hs : s < L.length) : to (stepsOf L) s = L.idxOf (nx 0 (at_ L s)) := by
  rw [to_get (by rw [stepsOf_len]; exact hs), at_get hs]
  unfold stepsOf
  rw [List.getElem_map]
theorem Whl.at_step {n : Nat} {L : List Glued} (h : Whl n L) {s : Nat} (hs : s < L.length) : at_ L (to (stepsOf L) s) = nx 0 (at_ L s) := by
  rw [to_steps hs]
  exact at_idx (h.cl _ (at_mem hs))
theorem Whl.step_lt {n : Nat} {L : List Glued} (h : Whl n L) {s : Nat} (hs : s < L.length) : to (stepsOf L) s < L.length := by
  rw [to_steps hs]
  exact List.idxOf_lt_length_iff.mpr (h.cl _ (at_mem hs))
theorem Whl.inj {n : Nat} {L : List Glued} (h : Whl n L) : Inj L.length (to (stepsOf L)) := by
  refine ⟨fun s hs => h.step_lt hs, fun s t hs ht e => ?_⟩
  refine at_inj h.nd hs ht (nx_inj (h.nm _ (at_mem hs)) (h.nm _ (at_mem ht)) ?_)
  rw [← h.at_step hs, ← h.at_step ht, e]
theorem Whl.prm {n : Nat} {L : List Glued} (h : Whl n L) : Prm L.length (stepsOf L) := by
  have e : stepsOf L = (List.range L.length).map (to (stepsOf L)) := by
    refine ext_to (n := L.length) (stepsOf_len L) (by simp) fun s hs => ?_
    rw [to_map (n := L.length) (by simp) hs, to_range hs]
  rw [e]
  exact prm_map (Prm.range _) h.inj.lt h.inj.inj
theorem Whl.at_it {n : Nat} {L : List Glued} (h : Whl n L) {s : Nat} (hs : s < L.length) : ∀ i, at_ L (it (to (stepsOf L)) i s) = wh (at_ L s) i
  | 0 => rfl
  | i + 1 => by
    show at_ L (to (stepsOf L) (it (to (stepsOf L)) i s)) = nx 0 (wh (at_ L s) i)
    rw [h.at_step (h.inj.it_lt hs i), h.at_it hs i]
theorem Whl.wheel {n : Nat} {L : List Glued} (h : Whl n L) (hn : n ≤ 6) {s : Nat} (hs : s < L.length) : Krcv.wheelOf (at_ L s) = (cycleOf L.length (to (stepsOf L)) s).map (at_ L) := by
  have N := h.nm _ (at_mem hs)
  obtain ⟨p, P⟩ := wper N hn
  obtain ⟨q, R⟩ := h.inj.period hs
  have e : p = q := by
    rcases Nat.lt_trichotomy p q with c | c | c
    · exfalso
      refine R.not p P.pos c (at_inj h.nd (h.inj.it_lt hs p) hs ?_)
      rw [h.at_it hs]; exact P.back
    · exact c
    · exfalso
      refine P.not q R.pos c ?_
      rw [← h.at_it hs, R.back]
  subst e
  rw [wheelOf_is N P, cycleOf_is h.inj hs R]
  unfold whs turns
  rw [List.map_map]
  exact List.map_congr_left fun i _ => (h.at_it hs i).symm
def stepW (a : List Glued × List Nat) (g : Glued) : List Glued × List Nat := if a.1.contains g then a else (a.1 ++ Krcv.wheelOf g, a.2 ++ [(Krcv.wheelOf g).length])
def stepC (n : Nat) (f : Nat → Nat) (l : List (List Nat)) (s : Nat) : List (List Nat) := if l.any fun c => c.contains s then l else l ++ [cycleOf n f s]
theorem wheels_eq (L : List Glued) : Krcv.wheels L = (L.foldl stepW ([], [])).2.mergeSort fun x y => decide (x ≤ y) := rfl
theorem cycles_eq (n : Nat) (f : Nat → Nat) : cycles n f = (List.range n).foldl (stepC n f) [] := rfl
theorem Whl.upto {n : Nat} {L : List Glued} (h : Whl n L) (hn : n ≤ 6) : ∀ k, k ≤ L.length → (L.take k).foldl stepW ([], []) =
    (((List.range k).foldl (stepC L.length (to (stepsOf L))) []).flatten.map (at_ L), ((List.range k).foldl (stepC L.length (to (stepsOf L))) []).map List.length)
  | 0, _ => rfl
  | k + 1, hk => by
    have hs : k < L.length := by omega
    rw [List.take_add_one, at_some hs, List.foldl_append, h.upto hn k (by omega), List.range_succ, List.foldl_append]
    have eC : (List.range k).foldl (stepC L.length (to (stepsOf L))) [] = leastRounds L.length (to (stepsOf L)) k := cycles_upto h.inj k (by omega)
    rw [eC]
    generalize hc : leastRounds L.length (to (stepsOf L)) k = cs
    have hlt : ∀ x ∈ cs.flatten, x < L.length := fun x hx => by
      obtain ⟨c, h1, h2⟩ := List.mem_flatten.mp hx
      rw [← hc] at h1
      obtain ⟨s, q1, rfl⟩ := List.mem_map.mp h1
      have := List.mem_range.mp (List.mem_filter.mp q1).1
      exact mem_cycle_lt h.inj (by omega) h2
    have key : (cs.flatten.map (at_ L)).contains (at_ L k) = cs.any fun c => c.contains k := by
      rw [Bool.eq_iff_iff, List.contains_iff_mem, List.mem_map, List.any_eq_true]
      constructor
      · rintro ⟨x, hx, e⟩
        have := at_inj h.nd (hlt x hx) hs e
        subst this
        obtain ⟨c, h1, h2⟩ := List.mem_flatten.mp hx
        exact ⟨c, h1, List.contains_iff_mem.mpr h2⟩
      · rintro ⟨c, h1, h2⟩
        exact ⟨k, List.mem_flatten.mpr ⟨c, h1, List.contains_iff_mem.mp h2⟩, rfl⟩
    show stepW _ (at_ L k) = _
    show stepW _ _ = ((stepC L.length (to (stepsOf L)) cs k).flatten.map (at_ L), (stepC L.length (to (stepsOf L)) cs k).map List.length)
    unfold stepW stepC
    show (if (cs.flatten.map (at_ L)).contains (at_ L k) = true then _ else _) = _
    rw [key]
    by_cases c : (cs.any fun c => c.contains k) = true
    · rw [if_pos c, if_pos c]
    · rw [if_neg c, if_neg c, h.wheel hn hs]
      simp
theorem Whl.wheels {n : Nat} {L : List Glued} (h : Whl n L) (hn : n ≤ 6) : Krcv.wheels L = ((cycles L.length (to (stepsOf L))).map List.length).mergeSort fun x y => decide (x ≤ y) := by
  have := h.upto hn L.length (Nat.le_refl _)
  rw [List.take_length] at this
  rw [wheels_eq, this, cycles_eq]
theorem sorted_is {l : List Nat} {ns : List Int} (p : ns.Perm (l.map fun (x : Nat) => (x : Int))) (s : ns.Pairwise (· ≤ ·)) : ns = (l.mergeSort fun x y => decide (x ≤ y)).map fun (x : Nat) => (x : Int) := by
  have p2 : ns.Perm ((l.mergeSort fun x y => decide (x ≤ y)).map fun (x : Nat) => (x : Int)) := p.trans ((List.mergeSort_perm l _).symm.map _)
  refine List.Perm.eq_of_pairwise (le := (· ≤ ·)) (fun a b _ _ h1 h2 => by omega) s ?_ p2
  rw [List.pairwise_map]
  have := List.pairwise_mergeSort (le := fun x y => decide (x ≤ y)) (fun a b c h1 h2 => by simp at *; omega) (fun a b => by simp; omega) l
  exact this.imp fun h => by simp at h; omega
/-! ## the least -/
def stepL (m : Option Glued) (g : Glued) : Option Glued := match m with
  | none => some g
  | some h => if less g h then some g else some h
theorem least_eq (l : List Glued) : Krcv.least l = l.foldl stepL none := rfl
theorem stepL_some (m g : Glued) : stepL (some m) g = some (keep m g) := by
  show (if less g m then some g else some m) = some (if less g m then g else m)
  by_cases c : less g m = true
  · rw [if_pos c, if_pos c]
  · rw [if_neg c, if_neg c]
theorem least_fold : ∀ (l : List Glued) (m : Glued), l.foldl stepL (some m) = some (l.foldl keep m)
  | [], m => rfl
  | x :: l, m => by rw [List.foldl_cons, List.foldl_cons, stepL_some, least_fold l]
theorem least_cons (x : Glued) (l : List Glued) : Krcv.least (x :: l) = some (l.foldl keep x) := by
  rw [least_eq, List.foldl_cons]
  exact least_fold l x
end Sq
set_option Elab.async false
set_option linter.unusedVariables false
set_option maxRecDepth 100000
set_option maxHeartbeats 2000000
/-! Words for all defs. -/
namespace Sq
open PySem PySem.Spec PyProof.Rows L2
def top (i : Nat) : Stmt := PySem.Challenge.pw_shearedsquares_s01_answers.main.body.getD i (.Pass ⟨0, 0, 0, 0⟩)
/-- squares as values -/
def nv (l : List Nat) : List V := l.map fun (x : Nat) => V.int (x : Int)
theorem nv_len (l : List Nat) : (nv l).length = l.length := List.length_map ..
theorem nv_get {l : List Nat} {i x : Nat} (h : l[i]? = some x) : (nv l)[i]? = some (V.int (x : Int)) := by
  unfold nv; rw [List.getElem?_map, h]; rfl
theorem nv_get_inv {l : List Nat} {i : Nat} {v : V} (h : (nv l)[i]? = some v) : ∃ x, l[i]? = some x ∧ v = V.int (x : Int) := by
  unfold nv at h
  rw [List.getElem?_map] at h
  cases e : l[i]? with
  | none => rw [e] at h; cases h
  | some x => rw [e] at h; exact ⟨x, rfl, (Option.some.inj h).symm⟩
theorem nv_append (l k : List Nat) : nv (l ++ k) = nv l ++ nv k := List.map_append ..
theorem get_to {l : List Nat} {i n : Nat} (hl : l.length = n) (hi : i < n) : l[i]? = some (Krct.to l i) := by
  have h : i < l.length := by omega
  rw [to_get h, List.getElem?_eq_getElem h]
theorem le_size {n : Nat} (h : n ≤ 1000) : n ≤ sizeLine := Nat.le_trans h (by decide)
theorem lt_size {n : Nat} (h : n < 1000) : n < sizeLine := Nat.lt_of_lt_of_le h (by decide)
theorem same_upd {H : Hp} {p : Addr} {o : HO} (hp : H p = none) : Same H (upd H p o) := fun b u e => by
  rw [upd_ne (ne_of_none e hp)]; exact e
/-- at p, new, anew -/
theorem same_set {H H' : Hp} {p : Addr} {o : HO} (hp : H p = none) (s : Same H H') : Same H (upd H' p o) := fun b u e => by
  rw [upd_ne (ne_of_none e hp)]; exact s b u e
theorem ixN_nat {n j : Nat} (h : j < n) : ixN n (j : Int) = some j := by
  unfold ixN
  rw [if_pos (by omega), if_pos (by omega)]; rfl
theorem br_t {c : Bool} {A B : Prop} (e : c = true) (h : A) : if c = true then A else B := by subst e; exact iteT h
theorem br_f {c : Bool} {A B : Prop} (e : c = false) (h : B) : if c = true then A else B := by subst e; exact iteF h
structure DefAt (K : PySem.W.Frag) (mg : Str → Option Value) (x : Str) (st : Stmt) (ps : List Str) (f : Addr) (fd : FuncData) : Prop where
  F : Fun K x x st f fd
  b : Binds K fd ps []
  g : mg x = some (.ref f)
/-- the built-ins that the program calls are the built-ins -/
structure Blt (mg : Str → Option Value) : Prop where
  len : mg "len" = none
  enumerate : mg "enumerate" = none
  range : mg "range" = none
  min : mg "min" = none
  max : mg "max" = none
  sorted : mg "sorted" = none
  list : mg "list" = none
end Sq
set_option Elab.async false
set_option linter.unusedVariables false
set_option maxRecDepth 100000
set_option maxHeartbeats 2000000
namespace Sq
open PySem PySem.Spec PyProof.Rows L2
open Krct (Glued to from_ inverse)
/-! ### backwards -/
abbrev sBackwards : Stmt := top 5
theorem scBackwards : FnScope ["steps", "back", "square", "there"] ["steps"] (defScope sBackwards) := ⟨rfl, rfl, rfl, by decide +kernel, rfl, by decide +kernel, by decide +kernel⟩
/-- a list of all squares comes in; for each square the one whose step leads to it -/
def spBackwards : Sp := fun vs H Q _ => ∃ (a : Addr) (n : Nat) (l : List Nat), vs = [.ref a] ∧ H a = some (.lst (nv l)) ∧ Prm n l ∧ n ≤ 6 ∧
  ∀ (H' : Hp) (p : Addr), Same H H' → H p = none → H' p = some (.lst (nv (inverse n l))) → Q (.ref p) H'
/-- behind k squares: those told so far -/
structure Bk (n : Nat) (l b : List Nat) (k : Nat) : Prop where
  len : b.length = n
  at_ : ∀ i, i < k → b[to l i]? = some i
theorem Bk.done {n : Nat} {l b : List Nat} (h : Prm n l) (B : Bk n l b n) : b = inverse n l := by
  refine ext_to B.len (inverse_prm h).len fun s hs => ?_
  rw [to_inverse hs]
  have := B.at_ (from_ l s) (h.from_lt hs)
  rw [h.to_from hs, get_to B.len hs] at this
  exact Option.some.inj this
theorem Bk.start {n : Nat} {l : List Nat} : Bk n l (List.replicate n 0) 0 := ⟨List.length_replicate .., fun i h => absurd h (Nat.not_lt_zero i)⟩
theorem Bk.next {n : Nat} {l b : List Nat} {k : Nat} (h : Prm n l) (hk : k < n) (B : Bk n l b k) : Bk n l (b.set (to l k) k) (k + 1) := by
  refine ⟨by rw [List.length_set]; exact B.len, fun i hi => ?_⟩
  by_cases e : i = k
  · subst e
    exact List.getElem?_set_self (by rw [B.len]; exact h.to_lt hk)
  · rw [List.getElem?_set_ne (fun q => e (h.to_inj (by omega) hk q.symm))]
    exact B.at_ i (by omega)
theorem nv_set (b : List Nat) (j x : Nat) : (nv b).set j (V.int (x : Int)) = nv (b.set j x) := by
  unfold nv; rw [List.map_set]
theorem nv_rep (n : Nat) : (List.replicate n [V.int 0]).flatten = nv (List.replicate n 0) := by
  unfold nv
  induction n with
  | zero => rfl
  | succ n ih => rw [List.replicate_succ, List.replicate_succ, List.flatten_cons, ih, List.map_cons]; rfl
section
variable {P : Program} {w : World} {K : PySem.W.Frag} {mg : Str → Option Value} {base : Heap}
theorem ok_backwards {f : Addr} {fd : FuncData} (D : DefAt K mg "backwards" sBackwards ["steps"] f fd) (T : Blt mg) : FnOk P w K mg base CX0 1 f fd ["steps"] spBackwards := by
  refine D.F.ok scBackwards (fun vs H Q E h => ?_) (fun cdv A outer s H vs Q E hr h => ?_)
  · obtain ⟨a, n, l, rfl, _⟩ := h
    rfl
  · obtain ⟨a, n, l, rfl, ha, hl, hn, k⟩ := h
    have nd := scBackwards.nd
    refine ⟨_, pss_cons (ps_set (i := 1) nd rfl (.inl rfl) (pe_op op_rep (pe_lst (pa_cons pe_int pa_nil)) (pe_callB call_len_seq (by rfl) T.len PySem.boot_len (pa_cons (pv 0) pa_nil))))
      (pss_cons (ps_for PassesOwn.never rfl (pi_enum (by rfl) T.enumerate (pa_cons (pv 0) pa_nil)) (pg_tup rfl (pgs_cons (pg_name (i := 2) nd rfl (.inl rfl)) (pgs_cons (pg_name (i := 3) nd rfl (.inl rfl)) pgs_nil)))
        (pss_one (ps_asg (pv 2) (pg_sub (pv 1) (pv 3) set_list))))
      (pss_one (ps_ret (pv 1)))), ?_⟩
    refine ⟨le_size (by simp), fun z hz => ?_⟩
    have ea : upd H z (.lst [.int 0]) a = some (.lst (nv l)) := same_upd hz a _ ha
    refine ⟨_, rfl, a, nv l, rfl, .inl (SqL.of ea), z, _, _, rfl, rfl, upd_same, ?_, ?_, ?_, fun p hp => ?_⟩
    · rw [nv_len]; omega
    · rw [nv_len, hl.len]; omega
    · rw [nv_len, hl.len]; exact le_size (by simp; omega)
    · rw [show ((nv l).length : Int).toNat = n by rw [nv_len, hl.len]; rfl, nv_rep]
      have s1 : Same H (upd (upd H z (.lst [.int 0])) p (.lst (nv (List.replicate n 0)))) := (same_upd hz).trans (same_upd hp)
      have hpH : H p = none := (same_upd hz).free hp
      refine ⟨_, rfl, a, nv l, rfl, SqL.of (s1 _ _ ha), for_it (walk_enum (K := K) (a := a) (xs := nv l)) (fun i σ H' => ∃ v2 v3 b, σ = [some (.ref a), some (.ref p), v2, v3] ∧ Same H H' ∧ Bk n l b i ∧ H' p = some (.lst (nv b)))
        ⟨none, none, _, rfl, s1, Bk.start, upd_same⟩ (fun i σ H' _ ⟨_, _, _, _, s5, _, _⟩ => SqL.of (s5 _ _ ha)) ?_ ?_⟩
      · rintro i x σ H' H2 hi ⟨v2, v3, b, rfl, s5, B, hb⟩ ⟨T1, y1, y2, rfl, hT, rfl, e1, e2⟩
        cases e1
        rw [nv_len, hl.len] at hi
        have e3 := nv_get (get_to hl.len hi)
        have e4 := e2.symm.trans e3
        cases e4
        have hb2 : upd H' T1 (.tup [.int (i : Nat), .int ((to l i : Nat) : Int)]) p = some (.lst (nv b)) := same_upd hT _ _ hb
        refine ⟨T1, _, rfl, SqT.of upd_same, rfl, _, _, rfl, _, _, rfl, rfl, ?_⟩
        refine ⟨_, rfl, _, rfl, _, rfl, p, _, _, to l i, rfl, rfl, hb2, ixN_nat (by rw [nv_len, B.len]; exact hl.to_lt hi), ?_⟩
        refine ⟨_, _, _, rfl, same_set hpH (s5.trans (same_upd hT)), B.next hl hi, ?_⟩
        rw [upd_same, nv_set]
      · rintro σ H' ⟨v2, v3, b, rfl, s5, B, hb⟩
        rw [nv_len, hl.len] at B
        rw [B.done hl] at hb
        exact ⟨_, rfl, k H' p s5 hpH hb⟩
end
end Sq
set_option Elab.async false
set_option linter.unusedVariables false
set_option maxRecDepth 100000
set_option maxHeartbeats 2000000
namespace Sq
open PySem PySem.Spec PyProof.Rows L2
open Krct (Glued to from_ inverse cycleOf cycles)
/-! ### round_from -/
abbrev sRound : Stmt := top 6
theorem scRound : FnScope ["first", "steps", "squares", "there"] ["first", "steps"] (defScope sRound) := ⟨rfl, rfl, rfl, by decide +kernel, rfl, by decide +kernel, by decide +kernel⟩
def spRound : Sp := fun vs H Q _ => ∃ (a : Addr) (n s : Nat) (l : List Nat), vs = [.int (s : Int), .ref a] ∧ H a = some (.lst (nv l)) ∧ Prm n l ∧ s < n ∧ n ≤ 200 ∧
  ∀ (H' : Hp) (p : Addr), Same H H' → H p = none → H' p = some (.lst (nv (cycleOf n (to l) s))) → Q (.ref p) H'
def lenAt (H : Hp) (p : Addr) : Nat := match H p with
  | some (.lst xs) => xs.length
  | _ => 0
theorem lenAt_is {H : Hp} {p : Addr} {xs : List V} (h : H p = some (.lst xs)) : lenAt H p = xs.length := by unfold lenAt; rw [h]
section
variable {P : Program} {w : World} {K : PySem.W.Frag} {mg : Str → Option Value} {base : Heap}
theorem ok_round {f : Addr} {fd : FuncData} (D : DefAt K mg "round_from" sRound ["first", "steps"] f fd) : FnOk P w K mg base CX0 1 f fd ["first", "steps"] spRound := by
  refine D.F.ok scRound (fun vs H Q E h => ?_) (fun cdv A outer s0 H vs Q E hr h => ?_)
  · obtain ⟨a, n, s, l, rfl, _⟩ := h
    rfl
  · obtain ⟨a, n, s, l, rfl, ha, hl, hs, hn, k⟩ := h
    have nd := scRound.nd
    have hI := Inj.to hl
    obtain ⟨p, Pr⟩ := hI.period hs
    have ec := cycleOf_is hI hs Pr
    refine ⟨_, pss_cons (ps_set (i := 2) nd rfl (.inl rfl) (pe_lst (pa_cons (pv 0) pa_nil)))
      (pss_cons (ps_set (i := 3) nd rfl (.inl rfl) (pe_ix ix_list (pv 1) (pv 0) (fun _ _ => rfl)))
      (pss_cons (ps_while PassesOwn.never (pt_cmpR op_ne (pv 3) (pv 0) (nomark _))
        (pss_cons (ps_expr (pe_bm PySem.F.plainAttrs_list PySem.F.slot_list_append PySem.F.type_list_append mt_append (pv 2) (pa_cons (pv 3) pa_nil)))
          (pss_one (ps_set (i := 3) nd rfl (.inl rfl) (pe_ix ix_list (pv 1) (pv 3) (fun _ _ => rfl))))))
      (pss_one (ps_ret (pv 2))))), ?_⟩
    refine ⟨_, rfl, le_size (by simp), fun q hq => ?_⟩
    have s1 : Same H (upd H q (.lst [.int (s : Int)])) := same_upd hq
    refine ⟨_, rfl, _, rfl, a, _, _, _, rfl, rfl, SqL.of (s1 _ _ ha), atI_nat (nv_get (get_to hl.len hs)), ?_⟩
    refine while_by (fun σ H' => ∃ j, σ = [some (.int (s : Int)), some (.ref a), some (.ref q), some (.int ((it (to l) (j + 1) s : Nat) : Int))] ∧ j < p ∧ Same H H' ∧ H' q = some (.lst (nv (turns (to l) s (j + 1)))))
      (fun _ H' => p - lenAt H' q) ⟨0, rfl, Pr.pos, s1, upd_same⟩ ?_ ?_
    · rintro σ H' ⟨j, rfl, hj, s2, hq2⟩
      refine ⟨_, rfl, _, rfl, rfl, _, rfl, ?_⟩
      by_cases c : it (to l) (j + 1) s = s
      · refine br_f (by rw [c]; simp) ?_
        have e : j + 1 = p := by
          apply Classical.byContradiction
          intro ne
          exact Pr.not (j + 1) (by omega) (by omega) c
        rw [e, ← ec] at hq2
        exact ⟨_, rfl, k H' q s2 hq hq2⟩
      · have hj1 : j + 1 < p := by
          apply Classical.byContradiction
          intro ge
          have : j + 1 = p := by omega
          rw [this] at c
          exact c Pr.back
        refine br_t (by simp; omega) ?_
        refine ⟨_, rfl, .inl ⟨rfl, _, SqL.of hq2⟩, _, rfl, q, _, _, rfl, rfl, hq2, ?_, ?_⟩
        · rw [nv_len, turns_len]; exact lt_size (by have := Pr.le; omega)
        have s3 : Same H (upd H' q (.lst (nv (turns (to l) s (j + 1)) ++ [.int ((it (to l) (j + 1) s : Nat) : Int)]))) := same_set hq s2
        refine ⟨_, rfl, _, rfl, a, _, _, _, rfl, rfl, SqL.of (s3 _ _ ha), atI_nat (nv_get (get_to hl.len (hI.it_lt hs (j + 1)))), ?_⟩
        have e3 : nv (turns (to l) s (j + 1)) ++ [V.int ((it (to l) (j + 1) s : Nat) : Int)] = nv (turns (to l) s (j + 1 + 1)) := by
          rw [turns_succ (to l) s (j + 1), nv_append]; rfl
        rw [e3]
        refine ⟨⟨j + 1, rfl, hj1, by rw [← e3]; exact s3, upd_same⟩, ?_⟩
        rw [lenAt_is hq2, lenAt_is upd_same, nv_len, nv_len, turns_len, turns_len]
        omega
    · rintro σ H' Q1 Q2 hQ ⟨v, e1, v2, e2, e3, k1, e4, q⟩
      exact ⟨v, e1, v2, e2, e3, k1, e4, hQ _ _ q⟩
end
end Sq
set_option Elab.async false
set_option linter.unusedVariables false
set_option maxRecDepth 100000
set_option maxHeartbeats 2000000
namespace Sq
open PySem PySem.Spec PyProof.Rows L2
open Krct (Glued to from_ inverse cycleOf cycles cycle)
/-! ### round_lengths -/
theorem nv_ints (l : List Nat) : nv l = (l.map fun (x : Nat) => (x : Int)).map V.int := by
  unfold nv; rw [List.map_map]; rfl
theorem min_least {n : Nat} {f : Nat → Nat} (h : Inj n f) {s : Nat} (hs : s < n) {m : Int} (hm : m ∈ (cycleOf n f s).map fun (x : Nat) => (x : Int)) (hle : ∀ y ∈ (cycleOf n f s).map fun (x : Nat) => (x : Int), m ≤ y) :
    decide (V.int m = V.int (s : Int)) = isLeast n f s := by
  have h1 : m ≤ (s : Int) := hle _ (List.mem_map.mpr ⟨s, self_mem_cycle h hs, rfl⟩)
  rw [Bool.eq_iff_iff, decide_eq_true_iff]
  unfold isLeast
  rw [List.all_eq_true]
  constructor
  · intro e x hx
    have := hle _ (List.mem_map.mpr ⟨x, hx, rfl⟩)
    injection e with e
    rw [decide_eq_true_iff]; omega
  · intro hall
    obtain ⟨x, hx, rfl⟩ := List.mem_map.mp hm
    have := of_decide_eq_true (hall x hx)
    have e : (x : Int) = (s : Int) := by omega
    show V.int (x : Int) = V.int (s : Int)
    rw [e]
def rlen (n : Nat) (f : Nat → Nat) (k : Nat) : List Nat := (leastRounds n f k).map List.length
theorem rlen_succ (n : Nat) (f : Nat → Nat) (k : Nat) : rlen n f (k + 1) = rlen n f k ++ (if isLeast n f k then [(cycleOf n f k).length] else []) := by
  unfold rlen leastRounds
  rw [List.range_succ, List.filter_append, List.map_append, List.map_append, List.filter_cons, List.filter_nil]
  by_cases c : isLeast n f k = true
  · rw [if_pos c, if_pos c]; rfl
  · rw [if_neg c, if_neg c]; rfl
theorem rlen_le (n : Nat) (f : Nat → Nat) (k : Nat) : (rlen n f k).length ≤ k := by
  unfold rlen leastRounds
  rw [List.length_map, List.length_map]
  exact Nat.le_trans (List.length_filter_le ..) (by simp)
abbrev sLengths : Stmt := top 7
theorem scLengths : FnScope ["steps", "lengths", "square", "squares"] ["steps"] (defScope sLengths) := ⟨rfl, rfl, rfl, by decide +kernel, rfl, by decide +kernel, by decide +kernel⟩
def spLengths : Sp := fun vs H Q _ => ∃ (a : Addr) (n : Nat) (l : List Nat), vs = [.ref a] ∧ H a = some (.lst (nv l)) ∧ Prm n l ∧ n ≤ 200 ∧
  ∀ (H' : Hp) (p : Addr), Same H H' → H p = none → H' p = some (.lst (nv ((cycles n (to l)).map List.length))) → Q (.ref p) H'
section
variable {P : Program} {w : World} {K : PySem.W.Frag} {mg : Str → Option Value} {base : Heap}
theorem ok_lengths {f fR : Addr} {fd fdR : FuncData} (D : DefAt K mg "round_lengths" sLengths ["steps"] f fd) (DR : DefAt K mg "round_from" sRound ["first", "steps"] fR fdR) (T : Blt mg) : FnOk P w K mg base CX0 2 f fd ["steps"] spLengths := by
  have GR : FnOk P w K mg base CX0 1 fR fdR ["first", "steps"] spRound := ok_round DR
  refine D.F.ok scLengths (fun vs H Q E h => ?_) (fun cdv A outer s0 H vs Q E hr h => ?_)
  · obtain ⟨a, n, l, rfl, _⟩ := h
    rfl
  · obtain ⟨a, n, l, rfl, ha, hl, hn, k⟩ := h
    have nd := scLengths.nd
    have hI := Inj.to hl
    refine ⟨_, pss_cons (ps_set (i := 1) nd rfl (.inl rfl) (pe_lst pa_nil))
      (pss_cons (ps_for PassesOwn.never rfl (pi_range1 (by rfl) T.range (pa_cons (pe_callB call_len_seq (by rfl) T.len PySem.boot_len (pa_cons (pv 0) pa_nil)) pa_nil)) (pg_name (i := 2) nd rfl (.inl rfl))
        (pss_cons (ps_set (i := 3) nd rfl (.inl rfl) (pe_call GR hr (by rfl) DR.g DR.F.kp DR.b .nil pass0 (pa_cons (pv 2) (pa_cons (pv 0) pa_nil))))
          (pss_one (ps_if (pt_cmpR op_eq (pe_callB (cr_min rfl) (by rfl) T.min (by decide +kernel) (pa_cons (pv 3) pa_nil)) (pv 2) (nomark _))
            (pss_one (ps_expr (pe_bm PySem.F.plainAttrs_list PySem.F.slot_list_append PySem.F.type_list_append mt_append (pv 1) (pa_cons (pe_callB call_len_seq (by rfl) T.len PySem.boot_len (pa_cons (pv 3) pa_nil)) pa_nil))))
            pss_nil))))
      (pss_one (ps_ret (pv 1)))), ?_⟩
    refine ⟨le_size (by simp), fun q hq => ?_⟩
    have s1 : Same H (upd H q (.lst [])) := same_upd hq
    refine ⟨_, rfl, a, _, rfl, .inl (SqL.of (s1 _ _ ha)), n, (by rw [nv_len, hl.len]), by omega, by omega, for_range (lo := 0) (n := n) (fun i σ H' => ∃ v2 v3, σ = [some (.ref a), some (.ref q), v2, v3] ∧ Same H H' ∧ H' q = some (.lst (nv (rlen n (to l) i))))
      ⟨none, none, rfl, s1, upd_same⟩ ?_ ?_⟩
    · rintro i σ H' hi ⟨v2, v3, rfl, s2, hq2⟩
      rw [Int.zero_add]
      refine ⟨_, rfl, _, rfl, a, n, i, l, rfl, s2 _ _ ha, hl, hi, hn, fun H3 r s3 hr3 hr4 => ?_⟩
      have hq3 := s3 _ _ hq2
      refine ⟨_, rfl, r, (cycleOf n (to l) i).map (fun (x : Nat) => (x : Int)), rfl, SqL.of (by rw [← nv_ints]; exact hr4), ?_, fun m hm hle => ?_⟩
      · rw [List.length_map]; exact List.length_pos_of_mem (self_mem_cycle hI hi)
      · refine ⟨_, rfl, rfl, _, rfl, ?_⟩
        rw [min_least hI hi hm hle]
        have es := rlen_succ n (to l) i
        cases c : isLeast n (to l) i
        · rw [c] at es
          refine iteF ?_
          refine ⟨_, _, rfl, s2.trans s3, ?_⟩
          rw [es, if_neg (by simp), List.append_nil]; exact hq3
        · rw [c] at es
          refine iteT ?_
          refine ⟨_, rfl, .inl ⟨rfl, _, SqL.of hq3⟩, _, rfl, r, _, rfl, .inl (SqL.of hr4), q, _, _, rfl, rfl, hq3, ?_, ?_⟩
          · rw [nv_len]; exact lt_size (by have := rlen_le n (to l) i; omega)
          · refine ⟨_, _, rfl, same_set hq (s2.trans s3), ?_⟩
            rw [upd_same, es, if_pos rfl, nv_append, nv_len]; rfl
    · rintro σ H' ⟨v2, v3, rfl, s2, hq2⟩
      refine ⟨_, rfl, k H' q s2 hq ?_⟩
      rw [hq2, cycles_is hI]; rfl
end
end Sq
set_option Elab.async false
set_option linter.unusedVariables false
set_option maxRecDepth 100000
set_option maxHeartbeats 2000000
namespace Sq
open PySem PySem.Spec PyProof.Rows L2
open Krct (Glued to from_ inverse cycleOf cycles cycle)
/-! ### the surface -/
abbrev sSurf : Stmt := inClass (top 4) 0
def sfF (ae an aw as : Addr) : List (Str × V) := [("east", .ref ae), ("north", .ref an), ("west", .ref aw), ("south", .ref as)]
theorem look_hit {k : Str} {v : V} {r : List (Str × V)} : List.lookup k ((k, v) :: r) = some v := by
  have e : (k == k) = true := beq_self_eq_true k
  simp only [List.lookup, e]
theorem look_go {k g : Str} {v : V} {r : List (Str × V)} (h : (k == g) = false) : List.lookup k ((g, v) :: r) = List.lookup k r := by
  simp only [List.lookup, h]
section
variable (ae an aw as : Addr)
theorem sf_e : (sfF ae an aw as).lookup ("east" : Str) = some (.ref ae) := look_hit
theorem sf_n : (sfF ae an aw as).lookup ("north" : Str) = some (.ref an) := (look_go (by decide +kernel)).trans look_hit
theorem sf_w : (sfF ae an aw as).lookup ("west" : Str) = some (.ref aw) := (look_go (by decide +kernel)).trans ((look_go (by decide +kernel)).trans look_hit)
theorem sf_s : (sfF ae an aw as).lookup ("south" : Str) = some (.ref as) := (look_go (by decide +kernel)).trans ((look_go (by decide +kernel)).trans ((look_go (by decide +kernel)).trans look_hit))
end
/-- the surface g stands at a -/
def SurfAt (C : Addr) (H : Hp) (a : Addr) (g : Glued) : Prop := ∃ dx ae an aw as, H a = some (.ins C dx (sfF ae an aw as)) ∧ H ae = some (.lst (nv g.east)) ∧ H an = some (.lst (nv g.north)) ∧
  H aw = some (.lst (nv (inverse g.n g.east))) ∧ H as = some (.lst (nv (inverse g.n g.north)))
theorem SurfAt.same {C : Addr} {H H' : Hp} {a : Addr} {g : Glued} (s : Same H H') (h : SurfAt C H a g) : SurfAt C H' a g := by
  obtain ⟨dx, ae, an, aw, as, h1, h2, h3, h4, h5⟩ := h
  exact ⟨dx, ae, an, aw, as, s _ _ h1, s _ _ h2, s _ _ h3, s _ _ h4, s _ _ h5⟩
/-- none of the lists of the surface at a lies at t -/
def Off (C t : Addr) (H : Hp) (a : Addr) : Prop := ∃ dx ae an aw as, H a = some (.ins C dx (sfF ae an aw as)) ∧ ae ≠ t ∧ an ≠ t ∧ aw ≠ t ∧ as ≠ t
theorem Off.same {C t : Addr} {H H' : Hp} {a : Addr} (s : Same H H') (h : Off C t H a) : Off C t H' a := by
  obtain ⟨dx, ae, an, aw, as, h1, h2⟩ := h
  exact ⟨dx, ae, an, aw, as, s _ _ h1, h2⟩
theorem sfF_inj {ae an aw as ae' an' aw' as' : Addr} (h : sfF ae an aw as = sfF ae' an' aw' as') : ae = ae' ∧ an = an' ∧ aw = aw' ∧ as = as' := by
  unfold sfF at h
  simp only [List.cons.injEq, Prod.mk.injEq, V.ref.injEq, and_true, true_and] at h
  exact ⟨h.1, h.2.1, h.2.2.1, h.2.2.2⟩
theorem Off.inv {C t : Addr} {H : Hp} {a dx ae an aw as : Addr} (h : Off C t H a) (e : H a = some (.ins C dx (sfF ae an aw as))) : ae ≠ t ∧ an ≠ t ∧ aw ≠ t ∧ as ≠ t := by
  obtain ⟨dx', ae', an', aw', as', h1, h2⟩ := h
  rw [e] at h1
  injection h1 with h1
  injection h1 with _ _ h1
  obtain ⟨rfl, rfl, rfl, rfl⟩ := sfF_inj h1
  exact h2
structure SurfC (K : PySem.W.Frag) (mg : Str → Option Value) (C f : Addr) (fd : FuncData) : Prop where
  cl : Cls K C
  nE : NoAttr K C "east"
  nN : NoAttr K C "north"
  nW : NoAttr K C "west"
  nS : NoAttr K C "south"
  g : mg "Surface" = some (.ref C)
  M : Mk K C f
  F : Fun K "__init__" "Surface.__init__" sSurf f fd
  b : Binds K fd ["self", "east", "north"] []
theorem scSurf : FnScope ["self", "east", "north"] ["self", "east", "north"] (defScope sSurf) := ⟨rfl, rfl, rfl, by decide +kernel, rfl, by decide +kernel, by decide +kernel⟩
def spSurf (C : Addr) : Sp := fun vs H Q _ => ∃ (p dx ae an : Addr) (n : Nat) (l k : List Nat), vs = [.ref p, .ref ae, .ref an] ∧ H p = some (.ins C dx []) ∧ H ae = some (.lst (nv l)) ∧ H an = some (.lst (nv k)) ∧ Prm n l ∧ Prm n k ∧ n ≤ 6 ∧
  ∀ H' : Hp, SurfAt C H' p ⟨n, l, k⟩ → (∀ b o, H b = some o → b ≠ p → H' b = some o) → (∀ t o, H t = some o → t ≠ ae → t ≠ an → Off C t H' p) → Q .non H'
theorem put_go {f g : Str} {v x : V} {r : List (Str × V)} (h : ¬ g = f) : putF f v ((g, x) :: r) = (g, x) :: putF f v r := if_neg h
theorem put_end {f : Str} {v : V} : putF f v [] = [(f, v)] := rfl
theorem putF_new (ae an aw as : Addr) : putF "south" (.ref as) (putF "west" (.ref aw) (putF "north" (.ref an) (putF "east" (.ref ae) []))) = sfF ae an aw as := by
  have d1 : ¬ ("east" : Str) = "north" := by decide +kernel
  have d2 : ¬ ("east" : Str) = "west" := by decide +kernel
  have d3 : ¬ ("north" : Str) = "west" := by decide +kernel
  have d4 : ¬ ("east" : Str) = "south" := by decide +kernel
  have d5 : ¬ ("north" : Str) = "south" := by decide +kernel
  have d6 : ¬ ("west" : Str) = "south" := by decide +kernel
  simp only [put_end, put_go d1, put_go d2, put_go d3, put_go d4, put_go d5, put_go d6]; rfl
section
variable {P : Program} {w : World} {K : PySem.W.Frag} {mg : Str → Option Value} {base : Heap}
theorem ok_surf {C f fB : Addr} {fd fdB : FuncData} (T : SurfC K mg C f fd) (DB : DefAt K mg "backwards" sBackwards ["steps"] fB fdB) (B : Blt mg) : FnOk P w K mg base CX0 2 f fd ["self", "east", "north"] (spSurf C) := by
  have GB : FnOk P w K mg base CX0 1 fB fdB ["steps"] spBackwards := ok_backwards DB B
  refine T.F.ok scSurf (fun vs H Q E h => ?_) (fun cdv A outer s0 H vs Q E hr h => ?_)
  · obtain ⟨p, dx, ae, an, n, l, k, rfl, _⟩ := h
    rfl
  · obtain ⟨p, dx, ae, an, n, l, k, rfl, hp, he, hnn, hl, hk, hn, q⟩ := h
    refine ⟨_, pss_cons (ps_fld (pv 0) (pv 1) rfl) (pss_cons (ps_fld (pv 0) (pv 2) rfl)
      (pss_cons (ps_fld (pv 0) (pe_call GB hr (by rfl) DB.g DB.F.kp DB.b .nil pass0 (pa_cons (pv 1) pa_nil)) rfl)
      (pss_one (ps_fld (pv 0) (pe_call GB hr (by rfl) DB.g DB.F.kp DB.b .nil pass0 (pa_cons (pv 2) pa_nil)) rfl)))), ?_⟩
    have np : ∀ {b : Addr} {xs : List V}, H b = some (.lst xs) → b ≠ p := fun e z => by rw [z, hp] at e; cases e
    refine ⟨_, rfl, _, rfl, p, C, dx, _, rfl, hp, T.cl, T.nE, (by show 0 < 1000; decide), ?_⟩
    refine ⟨_, rfl, _, rfl, p, C, dx, _, rfl, upd_same, T.cl, T.nN, (by show 1 < 1000; decide), ?_⟩
    rw [upd_upd]
    generalize eH1 : upd H p (.ins C dx (putF "north" (.ref an) (putF "east" (.ref ae) []))) = H1
    have p1 : H1 p = some (.ins C dx (putF "north" (.ref an) (putF "east" (.ref ae) []))) := by rw [← eH1]; exact upd_same
    have k1 : ∀ b o, H b = some o → b ≠ p → H1 b = some o := fun b o e ne => by rw [← eH1, upd_ne ne]; exact e
    refine ⟨_, rfl, ae, n, l, rfl, k1 _ _ he (np he), hl, hn, fun H2 aw s2 nw hw => ?_⟩
    have p2 := s2 _ _ p1
    refine ⟨_, rfl, p, C, dx, _, rfl, p2, T.cl, T.nW, (by show 2 < 1000; decide), ?_⟩
    have nwp : aw ≠ p := fun z => by rw [z, p1] at nw; cases nw
    generalize eH3 : upd H2 p _ = H3
    have p3 : H3 p = some (.ins C dx (putF "west" (.ref aw) (putF "north" (.ref an) (putF "east" (.ref ae) [])))) := by rw [← eH3]; exact upd_same
    have k3 : ∀ b o, H b = some o → b ≠ p → H3 b = some o := fun b o e ne => by rw [← eH3, upd_ne ne]; exact s2 _ _ (k1 b o e ne)
    have w3 : H3 aw = some (.lst (nv (inverse n l))) := by rw [← eH3, upd_ne nwp]; exact hw
    refine ⟨_, rfl, an, n, k, rfl, k3 _ _ hnn (np hnn), hk, hn, fun H4 as s4 ns4 hs4 => ?_⟩
    have p4 := s4 _ _ p3
    have nsp : as ≠ p := fun z => by rw [z, p3] at ns4; cases ns4
    refine ⟨_, rfl, p, C, dx, _, rfl, p4, T.cl, T.nS, (by show 3 < 1000; decide), ?_⟩
    have t1 : ∀ {t : Addr} {o : HO}, H t = some o → H1 t ≠ none := fun {t o} e z => by
      by_cases c : t = p
      · rw [c, p1] at z; cases z
      · rw [k1 t o e c] at z; cases z
    have t3 : ∀ {t : Addr} {o : HO}, H t = some o → H3 t ≠ none := fun {t o} e z => by
      by_cases c : t = p
      · rw [c, p3] at z; cases z
      · rw [k3 t o e c] at z; cases z
    refine q _ ⟨dx, ae, an, aw, as, ?_, ?_, ?_, ?_, ?_⟩ ?_ (fun t o e n1 n2 => ⟨dx, ae, an, aw, as, ?_, Ne.symm n1, Ne.symm n2, fun z => t1 e (z ▸ nw), fun z => t3 e (z ▸ ns4)⟩)
    · rw [upd_same, putF_new]
    · rw [upd_ne (np he)]; exact s4 _ _ (k3 _ _ he (np he))
    · rw [upd_ne (np hnn)]; exact s4 _ _ (k3 _ _ hnn (np hnn))
    · rw [upd_ne nwp]; exact s4 _ _ w3
    · rw [upd_ne nsp]; exact hs4
    · intro b o e ne
      rw [upd_ne ne]; exact s4 _ _ (k3 b o e ne)
    · rw [upd_same, putF_new]
end
end Sq
set_option Elab.async false
set_option linter.unusedVariables false
set_option maxRecDepth 100000
set_option maxHeartbeats 2000000
namespace Sq
open PySem PySem.Spec PyProof.Rows L2
open Krct (Glued to from_ inverse cycleOf cycles cycle)
/-! ### once_round, corner_lengths, count_holes -/
def rndL (g : Glued) : List Nat := g.east.map fun t => from_ g.north (from_ g.east (to g.north t))
theorem round_eq (g : Glued) (s : Nat) : g.round s = from_ g.north (from_ g.east (to g.north (to g.east s))) := rfl
theorem to_rndL {g : Glued} (h : Gl g) {s : Nat} (hs : s < g.n) : to (rndL g) s = g.round s := by
  unfold rndL
  rw [to_map h.e.len hs, round_eq]
theorem rndL_prm {g : Glued} (h : Gl g) : Prm g.n (rndL g) :=
  prm_map h.e (fun s hs => h.n.from_lt (h.e.from_lt (h.n.to_lt hs)))
    (fun s t hs ht e => h.n.to_inj hs ht (h.e.from_inj (h.n.to_lt hs) (h.n.to_lt ht) (h.n.from_inj (h.e.from_lt (h.n.to_lt hs)) (h.e.from_lt (h.n.to_lt ht)) e)))
theorem it_congr {n : Nat} {f k : Nat → Nat} (hf : Inj n f) (e : ∀ s, s < n → f s = k s) {s : Nat} (hs : s < n) : ∀ i, it f i s = it k i s
  | 0 => rfl
  | i + 1 => by
    show f (it f i s) = k (it k i s)
    rw [← it_congr hf e hs i]
    exact e _ (hf.it_lt hs i)
theorem inj_congr {n : Nat} {f k : Nat → Nat} (hf : Inj n f) (e : ∀ s, s < n → f s = k s) : Inj n k :=
  ⟨fun s hs => by rw [← e s hs]; exact hf.lt s hs, fun s t hs ht q => hf.inj s t hs ht (by rw [e s hs, e t ht]; exact q)⟩
theorem cycleOf_congr {n : Nat} {f k : Nat → Nat} (hf : Inj n f) (e : ∀ s, s < n → f s = k s) {s : Nat} (hs : s < n) : cycleOf n f s = cycleOf n k s := by
  obtain ⟨p, Pr⟩ := hf.period hs
  have Pr' : Per n k s p := ⟨Pr.pos, Pr.le, by rw [← it_congr hf e hs]; exact Pr.back, fun i h0 hi => by rw [← it_congr hf e hs]; exact Pr.not i h0 hi⟩
  rw [cycleOf_is hf hs Pr, cycleOf_is (inj_congr hf e) hs Pr']
  unfold turns
  exact List.map_congr_left fun i _ => it_congr hf e hs i
theorem cycles_congr {n : Nat} {f k : Nat → Nat} (hf : Inj n f) (e : ∀ s, s < n → f s = k s) : cycles n f = cycles n k := by
  rw [cycles_is hf, cycles_is (inj_congr hf e)]
  unfold leastRounds
  have h1 : (List.range n).filter (isLeast n f) = (List.range n).filter (isLeast n k) := by
    refine List.filter_congr fun s hs => ?_
    unfold isLeast
    rw [cycleOf_congr hf e (List.mem_range.mp hs)]
  rw [h1]
  refine List.map_congr_left fun s hs => cycleOf_congr hf e (List.mem_range.mp (List.mem_filter.mp hs).1)
theorem corners_is {g : Glued} (h : Gl g) : cycles g.n (to (rndL g)) = g.corners :=
  cycles_congr (Inj.to (rndL_prm h)) (fun s hs => to_rndL h hs)
theorem cycles_le {n : Nat} {f : Nat → Nat} (h : Inj n f) : (cycles n f).length ≤ n := by
  rw [cycles_is h]
  unfold leastRounds
  rw [List.length_map]
  exact Nat.le_trans (List.length_filter_le ..) (by simp)
theorem corners_le {g : Glued} (h : Gl g) : g.corners.length ≤ g.n := by
  rw [← corners_is h]; exact cycles_le (Inj.to (rndL_prm h))
theorem yes_then {σ : L2.St} {H : Hp} {A B : Hp → Prop} (h : A H) : tYes σ H (fun b H3 => if b = true then A H3 else B H3) := show (if true = true then A H else B H) from iteT (A := A H) (B := B H) h
abbrev sOnce : Stmt := top 8
theorem scOnce : FnScope ["surface", "there"] ["surface"] (defScope sOnce) := ⟨rfl, rfl, rfl, by decide +kernel, rfl, by decide +kernel, by decide +kernel⟩
def spOnce (C : Addr) : Sp := fun vs H Q _ => ∃ (a : Addr) (g : Glued), vs = [.ref a] ∧ SurfAt C H a g ∧ Gl g ∧ g.n ≤ 6 ∧
  ∀ (H' : Hp) (p : Addr), Same H H' → H p = none → H' p = some (.lst (nv (rndL g))) → Q (.ref p) H'
section
variable {P : Program} {w : World} {K : PySem.W.Frag} {mg : Str → Option Value} {base : Heap}
theorem ok_once {C fS f : Addr} {fdS fd : FuncData} (T : SurfC K mg C fS fdS) (D : DefAt K mg "once_round" sOnce ["surface"] f fd) : FnOk P w K mg base CX0 1 f fd ["surface"] (spOnce C) := by
  refine D.F.ok scOnce (fun vs H Q E h => ?_) (fun cdv A outer s0 H vs Q E hr h => ?_)
  · obtain ⟨a, g, rfl, _⟩ := h
    rfl
  · obtain ⟨a, g, rfl, hS, hg, hn, k⟩ := h
    obtain ⟨dx, ae, an, aw, as, h1, h2, h3, h4, h5⟩ := hS
    have nd := scOnce.nd
    refine ⟨_, pss_one (ps_ret (pe_lc (own := [("there", 1)]) (g := gName 1) (tt := tYes) (te := tOp (rIxL K) (tFld K (tVar 0) "south") (tOp (rIxL K) (tFld K (tVar 0) "west") (tOp (rIxL K) (tFld K (tVar 0) "north") (tVar 1)))) rfl nd (pi_list (pe_fld (pv 0) rfl)) (blkOk_by (N := ["surface", "there"]) (sc := defScope sOnce) (by decide +kernel)) (fun _ _ _ _ _ => pg_name (i := 1) nd rfl (Or.inl rfl)) (fun _ _ _ _ _ => pts_nil)
      (fun _ _ _ _ _ => pe_ix ix_list (pe_fld (pv 0) rfl) (pe_ix ix_list (pe_fld (pv 0) rfl) (pe_ix ix_list (pe_fld (pv 0) rfl) (pv 1) (fun _ _ => rfl)) (fun _ _ => rfl)) (fun _ _ => rfl)))), ?_⟩
    refine ⟨_, rfl, a, C, dx, _, _, rfl, h1, T.cl, T.nE, sf_e _ _ _ _, ae, rfl, ⟨_, SqL.of h2⟩, fun q hq => ?_⟩
    refine lc_list (K := K) (a := ae) (xs := nv g.east) (fun i H' => Same H H' ∧ H' q = some (.lst (nv ((rndL g).take i)))) ⟨same_upd hq, upd_same⟩ (fun i H' _ ⟨s1, _⟩ => SqL.of (s1 _ _ h2)) ?_ ?_
    · rintro i x H' hi ⟨s1, hq1⟩
      obtain ⟨t, ht, rfl⟩ := nv_get_inv hi
      have hil : i < g.east.length := (List.getElem?_eq_some_iff.mp ht).1
      have htn : t < g.n := (hg.e.mem t).mp (List.mem_of_getElem? ht)
      have e1 := hg.n.to_lt htn
      have e2 := hg.e.from_lt e1
      refine ⟨rfl, ?_⟩
      refine yes_then ?_
      refine ⟨_, rfl, a, C, dx, _, _, rfl, s1 _ _ h1, T.cl, T.nS, sf_s _ _ _ _, ?_⟩
      refine ⟨_, rfl, a, C, dx, _, _, rfl, s1 _ _ h1, T.cl, T.nW, sf_w _ _ _ _, ?_⟩
      refine ⟨_, rfl, a, C, dx, _, _, rfl, s1 _ _ h1, T.cl, T.nN, sf_n _ _ _ _, _, rfl, an, _, _, _, rfl, rfl, SqL.of (s1 _ _ h3), atI_nat (nv_get (get_to hg.n.len htn)), ?_⟩
      refine ⟨aw, _, _, _, rfl, rfl, SqL.of (s1 _ _ h4), atI_nat (nv_get (get_to (inverse_prm hg.e).len e1)), ?_⟩
      rw [to_inverse e1]
      refine ⟨as, _, _, _, rfl, rfl, SqL.of (s1 _ _ h5), atI_nat (nv_get (get_to (inverse_prm hg.n).len e2)), ?_⟩
      rw [to_inverse e2]
      refine ⟨_, hq1, ?_, same_set hq s1, ?_⟩
      · rw [nv_len, List.length_take]; exact lt_size (by have := hg.e.len; omega)
      · rw [upd_same]
        have e3 : (rndL g)[i]? = some (from_ g.north (from_ g.east (to g.north t))) := by
          unfold rndL; rw [List.getElem?_map, ht]; rfl
        rw [List.take_add_one, e3, nv_append]; rfl
    · rintro H' ⟨s1, hq1⟩
      refine k H' q s1 hq ?_
      rw [hq1, nv_len, List.take_of_length_le (by unfold rndL; rw [List.length_map]; exact Nat.le_refl _)]
end
end Sq
set_option Elab.async false
set_option linter.unusedVariables false
set_option maxRecDepth 100000
set_option maxHeartbeats 2000000
namespace Sq
open PySem PySem.Spec PyProof.Rows L2
open Krct (Glued to from_ inverse cycleOf cycles cycle order orderFrom)
/-! ### corner_lengths, count_holes -/
abbrev sCorn : Stmt := top 9
theorem scCorn : FnScope ["surface"] ["surface"] (defScope sCorn) := ⟨rfl, rfl, rfl, by decide +kernel, rfl, by decide +kernel, by decide +kernel⟩
def spCorn (C : Addr) : Sp := fun vs H Q _ => ∃ (a : Addr) (g : Glued), vs = [.ref a] ∧ SurfAt C H a g ∧ Gl g ∧ g.n ≤ 6 ∧
  ∀ (H' : Hp) (p : Addr), Same H H' → H p = none → H' p = some (.lst (nv (g.corners.map List.length))) → Q (.ref p) H'
abbrev sHoles : Stmt := top 10
theorem scHoles : FnScope ["surface"] ["surface"] (defScope sHoles) := ⟨rfl, rfl, rfl, by decide +kernel, rfl, by decide +kernel, by decide +kernel⟩
def spHoles (C : Addr) : Sp := fun vs H Q _ => ∃ (a : Addr) (g : Glued), vs = [.ref a] ∧ SurfAt C H a g ∧ Gl g ∧ g.n ≤ 6 ∧
  ∀ (H' : Hp), Same H H' → Q (.int (g.holes : Int)) H'
section
variable {P : Program} {w : World} {K : PySem.W.Frag} {mg : Str → Option Value} {base : Heap} {C fS : Addr} {fdS : FuncData}
theorem ok_corn {f f1 f2 : Addr} {fd fd1 fd2 : FuncData} (D : DefAt K mg "corner_lengths" sCorn ["surface"] f fd) (D1 : DefAt K mg "once_round" sOnce ["surface"] f1 fd1) (D2 : DefAt K mg "round_lengths" sLengths ["steps"] f2 fd2)
    (G1 : FnOk P w K mg base CX0 1 f1 fd1 ["surface"] (spOnce C)) (G2 : FnOk P w K mg base CX0 2 f2 fd2 ["steps"] spLengths) : FnOk P w K mg base CX0 3 f fd ["surface"] (spCorn C) := by
  refine D.F.ok scCorn (fun vs H Q E h => ?_) (fun cdv A outer s0 H vs Q E hr h => ?_)
  · obtain ⟨a, g, rfl, _⟩ := h
    rfl
  · obtain ⟨a, g, rfl, hS, hg, hn, k⟩ := h
    refine ⟨_, pss_one (ps_ret (pe_call G2 hr (by rfl) D2.g D2.F.kp D2.b .nil pass0 (pa_cons (pe_call G1 (hr.mono (by decide)) (by rfl) D1.g D1.F.kp D1.b .nil pass0 (pa_cons (pv 0) pa_nil)) pa_nil))), ?_⟩
    refine ⟨_, rfl, a, g, rfl, hS, hg, hn, fun H1 p s1 np hp => ?_⟩
    refine ⟨p, g.n, rndL g, rfl, hp, rndL_prm hg, by omega, fun H2 q s2 nq hq => ?_⟩
    rw [corners_is hg] at hq
    exact k H2 q (s1.trans s2) (s1.free nq) hq
theorem ok_holes {f f1 : Addr} {fd fd1 : FuncData} (T : SurfC K mg C fS fdS) (B : Blt mg) (D : DefAt K mg "count_holes" sHoles ["surface"] f fd) (D1 : DefAt K mg "corner_lengths" sCorn ["surface"] f1 fd1)
    (G1 : FnOk P w K mg base CX0 3 f1 fd1 ["surface"] (spCorn C)) : FnOk P w K mg base CX0 4 f fd ["surface"] (spHoles C) := by
  refine D.F.ok scHoles (fun vs H Q E h => ?_) (fun cdv A outer s0 H vs Q E hr h => ?_)
  · obtain ⟨a, g, rfl, _⟩ := h
    rfl
  · obtain ⟨a, g, rfl, hS, hg, hn, k⟩ := h
    refine ⟨_, pss_one (ps_ret (pe_op op_add (pe_op op_fdiv (pe_op op_sub (pe_callB call_len_seq (by rfl) B.len PySem.boot_len (pa_cons (pe_fld (pv 0) rfl) pa_nil))
      (pe_callB call_len_seq (by rfl) B.len PySem.boot_len (pa_cons (pe_call G1 hr (by rfl) D1.g D1.F.kp D1.b .nil pass0 (pa_cons (pv 0) pa_nil)) pa_nil))) pe_int) pe_int)), ?_⟩
    obtain ⟨dx, ae, an, aw, as, h1, h2, h3, h4, h5⟩ := id hS
    refine ⟨_, rfl, a, C, dx, _, _, rfl, h1, T.cl, T.nE, sf_e _ _ _ _, ae, _, rfl, .inl (SqL.of h2), ?_⟩
    refine ⟨_, rfl, a, g, rfl, hS, hg, hn, fun H1 p s1 np hp => ?_⟩
    refine ⟨p, _, rfl, .inl (SqL.of hp), _, _, rfl, rfl, _, _, rfl, rfl, ⟨by decide, by decide⟩, _, _, rfl, rfl, ?_⟩
    have e := k H1 s1
    have hc := corners_le hg
    have e2 : ((nv g.east).length : Int) - ((nv (g.corners.map List.length)).length : Int) = ((g.n - g.corners.length : Nat) : Int) := by
      rw [nv_len, nv_len, List.length_map, hg.e.len]; omega
    rw [e2]
    have e3 : (((g.n - g.corners.length : Nat) : Int) / 2 + 1) = (g.holes : Int) := by
      unfold Glued.holes; omega
    show Q (V.int (((g.n - g.corners.length : Nat) : Int) / 2 + 1)) H1
    rw [e3]
    exact e
end
/-! ### order_from -/
theorem flat_nv (l : List Nat) : (nv l).all flatV = true := by
  rw [List.all_eq_true]
  intro x hx
  obtain ⟨y, _, rfl⟩ := List.mem_map.mp hx
  rfl
theorem inV_nv (l : List Nat) (t : Nat) : inV (.int (t : Int)) (nv l) = l.contains t := by
  unfold inV nv
  rw [List.any_map]
  induction l with
  | nil => rfl
  | cons a l ih =>
    rw [List.any_cons, ih, List.contains_cons]
    congr 1
    show eqV (.int (a : Int)) (.int (t : Int)) = (t == a)
    rw [Bool.eq_iff_iff]
    simp [eqV]
    omega
abbrev sOrder : Stmt := top 11
theorem scOrder : FnScope ["square", "surface", "order", "turn", "there"] ["square", "surface"] (defScope sOrder) := ⟨rfl, rfl, rfl, by decide +kernel, rfl, by decide +kernel, by decide +kernel⟩
def spOrder (C : Addr) : Sp := fun vs H Q _ => ∃ (a : Addr) (s : Nat) (g : Glued), vs = [.int (s : Int), .ref a] ∧ SurfAt C H a g ∧ Gl g ∧ s < g.n ∧ g.n ≤ 6 ∧
  ∀ (H' : Hp) (p : Addr), Same H H' → H p = none → H' p = some (.lst (nv (orderFrom g s))) → Q (.ref p) H'
def intAt (σ : L2.St) (i : Nat) : Int := match σ[i]? with
  | some (some (.int k)) => k
  | _ => 0
structure Ordr (g : Glued) (s : Nat) (l : List Nat) (i : Nat) : Prop where
  nd : l.Nodup
  lt : ∀ x ∈ l, x < g.n
  le : i ≤ l.length
  goes : order g (g.n + 1 - i) l i = orderFrom g s
theorem Ordr.len {g : Glued} {s : Nat} {l : List Nat} {i : Nat} (o : Ordr g s l i) : l.length ≤ g.n := by
  have := List.Nodup.length_le_of_subset (l₂ := List.range g.n) o.nd (fun x hx => List.mem_range.mpr (o.lt x hx))
  simpa using this
theorem Ordr.start {g : Glued} {s : Nat} (hs : s < g.n) : Ordr g s [s] 0 := ⟨by simp, by simpa using hs, Nat.zero_le _, rfl⟩
theorem Ordr.stop {g : Glued} {s : Nat} {l : List Nat} {i : Nat} (o : Ordr g s l i) (h : l.length ≤ i) : l = orderFrom g s := by
  have := o.goes
  have e : g.n + 1 - i = (g.n - i) + 1 := by have := o.len; have := o.le; omega
  rw [e, order_none (List.getElem?_eq_none_iff.mpr h)] at this
  exact this
theorem Ordr.next {g : Glued} {s : Nat} {l : List Nat} {i x : Nat} (hg : Gl g) (o : Ordr g s l i) (h : l[i]? = some x) : Ordr g s (push (push l (to g.east x)) (to g.north x)) (i + 1) := by
  have hx := o.lt x (List.mem_of_getElem? h)
  have hi : i < l.length := (List.getElem?_eq_some_iff.mp h).1
  refine ⟨push_nd (push_nd o.nd), push_lt (push_lt o.lt (hg.e.to_lt hx)) (hg.n.to_lt hx), ?_, ?_⟩
  · have := ((push_pre (l := l) (t := to g.east x)).trans (push_pre (t := to g.north x))).length_le
    omega
  · have e := o.goes
    have e1 : g.n + 1 - i = (g.n + 1 - (i + 1)) + 1 := by have := o.len; omega
    rw [e1, order_some h] at e
    exact e
theorem push_small {n : Nat} {l : List Nat} (nd : l.Nodup) (lt : ∀ x ∈ l, x < n) : l.length ≤ n := by
  have := List.Nodup.length_le_of_subset (l₂ := List.range n) nd (fun x hx => List.mem_range.mpr (lt x hx))
  simpa using this
theorem push_new {l : List Nat} {t : Nat} (h : l.contains t = false) : push l t = l ++ [t] := by
  unfold push; rw [h]; rfl
theorem push_has {l : List Nat} {t : Nat} (h : l.contains t = true) : push l t = l := by
  unfold push; rw [h]; rfl
theorem fold_small {n : Nat} {l : List Nat} (nd : l.Nodup) (lt : ∀ x ∈ l, x < n) (k : List Nat) (hk : ∀ x ∈ k, x < n) : (k.foldl push l).length ≤ n := by
  induction k generalizing l with
  | nil => exact push_small nd lt
  | cons a k ih =>
    exact ih (push_nd nd) (push_lt lt (hk a (by simp))) (fun x hx => hk x (by simp [hx]))
section
variable {P : Program} {w : World} {K : PySem.W.Frag} {mg : Str → Option Value} {base : Heap} {C fS : Addr} {fdS : FuncData}
theorem ok_order {f : Addr} {fd : FuncData} (T : SurfC K mg C fS fdS) (B : Blt mg) (D : DefAt K mg "order_from" sOrder ["square", "surface"] f fd) : FnOk P w K mg base CX0 1 f fd ["square", "surface"] (spOrder C) := by
  refine D.F.ok scOrder (fun vs H Q E h => ?_) (fun cdv A outer s0 H vs Q E hr h => ?_)
  · obtain ⟨a, s, g, rfl, _⟩ := h
    rfl
  · obtain ⟨a, s, g, rfl, hS, hg, hs, hn, k⟩ := h
    have nd := scOrder.nd
    obtain ⟨dx, ae, an, aw, as, h1, h2, h3, h4, h5⟩ := id hS
    refine ⟨_, pss_cons (ps_set (i := 2) nd rfl (.inl rfl) (pe_lst (pa_cons (pv 0) pa_nil)))
      (pss_cons (ps_set (i := 3) nd rfl (.inl rfl) pe_int)
      (pss_cons (ps_while PassesOwn.never (pt_cmpR op_lt (pv 3) (pe_callB call_len_seq (by rfl) B.len PySem.boot_len (pa_cons (pv 2) pa_nil)) (nomark _))
        (pss_cons (ps_for PassesOwn.never rfl (pi_tup (pe_tup (pa_cons (pe_ix ix_list (pe_fld (pv 1) rfl) (pe_ix ix_list (pv 2) (pv 3) (fun _ _ => rfl)) (fun _ _ => rfl)) (pa_cons (pe_ix ix_list (pe_fld (pv 1) rfl) (pe_ix ix_list (pv 2) (pv 3) (fun _ _ => rfl)) (fun _ _ => rfl)) pa_nil)))) (pg_name (i := 4) nd rfl (.inl rfl))
            (pss_one (ps_if (pt_cmpR op_notIn_seq (pv 4) (pv 2) (by rfl))
              (pss_one (ps_expr (pe_bm PySem.F.plainAttrs_list PySem.F.slot_list_append PySem.F.type_list_append mt_append (pv 2) (pa_cons (pv 4) pa_nil)))) pss_nil)))
          (pss_one (ps_aug (i := 3) nd rfl (.inl rfl) pe_int ip_add))))
      (pss_one (ps_ret (pv 2))))), ?_⟩
    refine ⟨_, rfl, le_size (by simp), fun q hq => ?_⟩
    refine while_by (fun σ H' => ∃ (i : Nat) (l : List Nat) (v : Option V), σ = [some (.int (s : Int)), some (.ref a), some (.ref q), some (.int (i : Int)), v] ∧ Ordr g s l i ∧ Same H H' ∧ H' q = some (.lst (nv l)))
      (fun σ _ => g.n + 1 - (intAt σ 3).toNat) ⟨0, [s], none, rfl, Ordr.start hs, same_upd hq, upd_same⟩ ?_ ?_
    · rintro σ H' ⟨i, l, v, rfl, o, s1, hq1⟩
      refine ⟨_, rfl, _, rfl, q, _, rfl, .inl (SqL.of hq1), _, _, rfl, rfl, _, rfl, ?_⟩
      rw [nv_len]
      by_cases c : i < l.length
      · refine br_t (decide_eq_true (by omega)) ?_
        obtain ⟨x, hx⟩ : ∃ x, l[i]? = some x := ⟨_, List.getElem?_eq_getElem c⟩
        have hxn := o.lt x (List.mem_of_getElem? hx)
        refine ⟨_, rfl, a, C, dx, _, _, rfl, s1 _ _ h1, T.cl, T.nE, sf_e _ _ _ _, _, rfl, _, rfl, q, _, _, _, rfl, rfl, SqL.of hq1, atI_nat (nv_get hx), ae, _, _, _, rfl, rfl, SqL.of (s1 _ _ h2), atI_nat (nv_get (get_to hg.e.len hxn)), ?_⟩
        refine ⟨_, rfl, a, C, dx, _, _, rfl, s1 _ _ h1, T.cl, T.nN, sf_n _ _ _ _, _, rfl, _, rfl, q, _, _, _, rfl, rfl, SqL.of hq1, atI_nat (nv_get hx), an, _, _, _, rfl, rfl, SqL.of (s1 _ _ h3), atI_nat (nv_get (get_to hg.n.len hxn)), ?_⟩
        refine ⟨by show 2 ≤ sizeLine; decide, fun t ht => ?_⟩
        refine ⟨t, rfl, ⟨_, SqT.of upd_same⟩, for_tup (K := K) (a := t) (xs := nv [to g.east x, to g.north x]) (fun j σ H2 => ∃ v4, σ = [some (.int (s : Int)), some (.ref a), some (.ref q), some (.int (i : Int)), v4] ∧ Same H H2 ∧ H2 q = some (.lst (nv (([to g.east x, to g.north x].take j).foldl push l))) ∧ H2 t = some (.tup (nv [to g.east x, to g.north x])))
          ⟨v, rfl, s1.trans (same_upd ht), same_upd ht _ _ hq1, upd_same⟩ (fun _ _ _ _ ⟨_, _, _, _, e⟩ => SqT.of e) ?_ ?_⟩
        · rintro j y σ2 H2 hj ⟨v4, rfl, s2, hq2, ht2⟩
          obtain ⟨t', ht', rfl⟩ := nv_get_inv hj
          have hj2 : ([to g.east x, to g.north x] : List Nat).take (j + 1) = ([to g.east x, to g.north x] : List Nat).take j ++ [t'] := by
            rw [List.take_add_one, ht']; rfl
          have h7 : ∀ z ∈ ([to g.east x, to g.north x] : List Nat), z < g.n := by
            intro z hz
            rcases List.mem_cons.mp hz with rfl | hz
            · exact hg.e.to_lt hxn
            · rcases List.mem_cons.mp hz with rfl | hz
              · exact hg.n.to_lt hxn
              · cases hz
          have hl2 := fold_small o.nd o.lt (([to g.east x, to g.north x] : List Nat).take j) (fun z hz => h7 z (List.mem_of_mem_take hz))
          refine ⟨_, rfl, _, rfl, q, _, rfl, .inl (SqL.of hq2), rfl, flat_nv _, _, rfl, ?_⟩
          rw [if_pos rfl, inV_nv, hj2, List.foldl_append]
          generalize hL : List.foldl push l (([to g.east x, to g.north x] : List Nat).take j) = L at hq2 hl2 ⊢
          show if (!L.contains t') = true then _ else ∃ v4, _ ∧ _ ∧ H2 q = some (.lst (nv (push L t'))) ∧ _
          cases c2 : L.contains t'
          · refine br_t rfl ?_
            refine ⟨_, rfl, .inl ⟨rfl, _, SqL.of hq2⟩, _, rfl, q, _, _, rfl, rfl, hq2, lt_size (by rw [nv_len]; omega), ?_⟩
            refine ⟨_, rfl, same_set hq s2, ?_, ?_⟩
            · show upd H2 q _ q = some (.lst (nv (push L t')))
              rw [upd_same, push_new c2, nv_append]; rfl
            · rw [upd_ne (ne_of ht2 hq2 (by intro z; cases z))]; exact ht2
          · refine br_f rfl ?_
            refine ⟨_, rfl, s2, ?_, ht2⟩
            rw [push_has c2]; exact hq2
        · rintro σ2 H2 ⟨v4, rfl, s2, hq2, ht2⟩
          refine ⟨_, rfl, _, _, rfl, rfl, ?_⟩
          refine ⟨⟨i + 1, _, v4, rfl, o.next hg hx, s2, hq2⟩, ?_⟩
          have := o.len
          show g.n + 1 - (i + 1) < g.n + 1 - i
          omega
      · refine br_f (decide_eq_false (by omega)) ?_
        have e := o.stop (by omega)
        rw [e] at hq1
        exact ⟨_, rfl, k H' q s1 hq hq1⟩
    · rintro σ H' Q1 Q2 hQ ⟨v, e1, v2, e2, p, xs, e3, e4, i, j, e5, e6, k1, e7, q⟩
      exact ⟨v, e1, v2, e2, p, xs, e3, e4, i, j, e5, e6, k1, e7, hQ _ _ q⟩
end
end Sq
set_option Elab.async false
set_option linter.unusedVariables false
set_option maxRecDepth 100000
set_option maxHeartbeats 2000000
namespace Sq
open PySem PySem.Spec PyProof.Rows L2
open Krct (Glued to from_ inverse cycleOf cycles cycle order orderFrom renamed)
/-! ### hangs_together -/
abbrev sHangs : Stmt := top 12
theorem scHangs : FnScope ["surface"] ["surface"] (defScope sHangs) := ⟨rfl, rfl, rfl, by decide +kernel, rfl, by decide +kernel, by decide +kernel⟩
def spHangs (C : Addr) : Sp := fun vs H Q _ => ∃ (a : Addr) (g : Glued), vs = [.ref a] ∧ SurfAt C H a g ∧ Gl g ∧ 0 < g.n ∧ g.n ≤ 6 ∧
  ∀ (H' : Hp), Same H H' → Q (.bl g.whole) H'
/-! ### renamed -/
abbrev sRenamed : Stmt := top 13
theorem scRenamed : FnScope ["order", "surface", "called", "east", "north", "square"] ["order", "surface"] (defScope sRenamed) := ⟨rfl, rfl, rfl, by decide +kernel, rfl, by decide +kernel, by decide +kernel⟩
/-- both lists, one behind the other -/
def both (g : Glued) : List Nat := g.east ++ g.north
def spRenamed (C : Addr) : Sp := fun vs H Q _ => ∃ (o a : Addr) (l : List Nat) (g : Glued), vs = [.ref o, .ref a] ∧ H o = some (.lst (nv l)) ∧ Prm g.n l ∧ SurfAt C H a g ∧ Gl g ∧ g.n ≤ 6 ∧
  ∀ (H' : Hp) (p : Addr), Same H H' → H p = none → H' p = some (.lst (nv (both (renamed g l)))) → Q (.ref p) H'
section
variable {P : Program} {w : World} {K : PySem.W.Frag} {mg : Str → Option Value} {base : Heap} {C fS : Addr} {fdS : FuncData}
theorem ok_hangs {f f1 : Addr} {fd fd1 : FuncData} (T : SurfC K mg C fS fdS) (B : Blt mg) (D : DefAt K mg "hangs_together" sHangs ["surface"] f fd) (D1 : DefAt K mg "order_from" sOrder ["square", "surface"] f1 fd1)
    (G1 : FnOk P w K mg base CX0 1 f1 fd1 ["square", "surface"] (spOrder C)) : FnOk P w K mg base CX0 2 f fd ["surface"] (spHangs C) := by
  refine D.F.ok scHangs (fun vs H Q E h => ?_) (fun cdv A outer s0 H vs Q E hr h => ?_)
  · obtain ⟨a, g, rfl, _⟩ := h
    rfl
  · obtain ⟨a, g, rfl, hS, hg, hp, hn, k⟩ := h
    refine ⟨_, pss_one (ps_ret (pe_cmpR op_eq (pe_callB call_len_seq (by rfl) B.len PySem.boot_len (pa_cons (pe_call G1 hr (by rfl) D1.g D1.F.kp D1.b .nil pass0 (pa_cons pe_int (pa_cons (pv 0) pa_nil))) pa_nil))
      (pe_callB call_len_seq (by rfl) B.len PySem.boot_len (pa_cons (pe_fld (pv 0) rfl) pa_nil)) (nomark _))), ?_⟩
    refine ⟨_, rfl, a, 0, g, rfl, hS, hg, hp, hn, fun H1 p s1 np h1 => ?_⟩
    obtain ⟨dx, ae, an, aw, as, q1, q2, q3, q4, q5⟩ := hS.same s1
    refine ⟨p, _, rfl, .inl (SqL.of h1), _, rfl, a, C, dx, _, _, rfl, q1, T.cl, T.nE, sf_e _ _ _ _, ae, _, rfl, .inl (SqL.of q2), rfl, ?_⟩
    have e : decide (V.int ((nv (orderFrom g 0)).length : Int) = V.int ((nv g.east).length : Int)) = g.whole := by
      unfold Glued.whole
      rw [nv_len, nv_len, hg.e.len, Bool.eq_iff_iff, decide_eq_true_iff, beq_iff_eq]
      constructor
      · intro z; injection z with z; omega
      · intro z; rw [z]
    rw [e]
    exact k H1 s1
/-- the two lists that are built: by a step, by the order -/
theorem ok_renamed {f f1 : Addr} {fd fd1 : FuncData} (T : SurfC K mg C fS fdS) (B : Blt mg) (D : DefAt K mg "renamed" sRenamed ["order", "surface"] f fd) (D1 : DefAt K mg "backwards" sBackwards ["steps"] f1 fd1)
    (G1 : FnOk P w K mg base CX0 1 f1 fd1 ["steps"] spBackwards) : FnOk P w K mg base CX0 2 f fd ["order", "surface"] (spRenamed C) := by
  refine D.F.ok scRenamed (fun vs H Q E h => ?_) (fun cdv A outer s0 H vs Q E hr h => ?_)
  · obtain ⟨o, a, l, g, rfl, _⟩ := h
    rfl
  · obtain ⟨o, a, l, g, rfl, ho, hl, hS, hg, hn, k⟩ := h
    have nd := scRenamed.nd
    refine ⟨_, pss_cons (ps_set (i := 2) nd rfl (.inr rfl) (pe_call G1 hr (by rfl) D1.g D1.F.kp D1.b .nil pass0 (pa_cons (pv 0) pa_nil)))
      (pss_cons (ps_setLc (i := 3) (own := [("square", 5)]) (g := gName 5) (tt := tYes) (te := tOp (rIxL K) (tVar 2) (tOp (rIxL K) (tFld K (tVar 1) "east") (tVar 5))) rfl nd rfl rfl (sw_true rfl rfl rfl (by decide +kernel)) (pi_list (pv 0))
        (blkOk_by (N := ["order", "surface", "called", "east", "north", "square"]) (sc := defScope sRenamed) (by decide +kernel)) (fun _ _ _ _ _ => pg_name (i := 5) nd rfl (Or.inl rfl)) (fun _ _ _ _ _ => pts_nil)
        (fun _ _ _ _ _ => pe_ix ix_list (pv 2) (pe_ix ix_list (pe_fld (pv 1) rfl) (pv 5) (fun _ _ => rfl)) (fun _ _ => rfl)))
      (pss_cons (ps_setLc (i := 4) (own := [("square", 5)]) (g := gName 5) (tt := tYes) (te := tOp (rIxL K) (tVar 2) (tOp (rIxL K) (tFld K (tVar 1) "north") (tVar 5))) rfl nd rfl rfl (sw_true rfl rfl rfl (by decide +kernel)) (pi_list (pv 0))
        (blkOk_by (N := ["order", "surface", "called", "east", "north", "square"]) (sc := defScope sRenamed) (by decide +kernel)) (fun _ _ _ _ _ => pg_name (i := 5) nd rfl (Or.inl rfl)) (fun _ _ _ _ _ => pts_nil)
        (fun _ _ _ _ _ => pe_ix ix_list (pv 2) (pe_ix ix_list (pe_fld (pv 1) rfl) (pv 5) (fun _ _ => rfl)) (fun _ _ => rfl)))
      (pss_one (ps_ret (pe_op op_cat (pv 3) (pv 4)))))), ?_⟩
    refine ⟨_, rfl, o, g.n, l, rfl, ho, hl, hn, fun H1 c s1 nc hc => ?_⟩
    have ho1 := s1 _ _ ho
    obtain ⟨dx, ae, an, aw, as, q1, q2, q3, q4, q5⟩ := hS.same s1
    have hli := inverse_prm hl
    refine ⟨_, rfl, o, rfl, ⟨_, SqL.of ho1⟩, fun p hp => ?_⟩
    refine lc_list (K := K) (a := o) (xs := nv l) (fun i H' => Same H1 H' ∧ H' p = some (.lst (nv ((renamed g l).east.take i)))) ⟨same_upd hp, upd_same⟩ (fun i H' _ ⟨z, _⟩ => SqL.of (z _ _ ho1)) ?_ ?_
    · rintro i x H' hi ⟨s2, hp2⟩
      obtain ⟨t, ht, rfl⟩ := nv_get_inv hi
      have hil : i < l.length := (List.getElem?_eq_some_iff.mp ht).1
      have htn : t < g.n := (hl.mem t).mp (List.mem_of_getElem? ht)
      have e1 := hg.e.to_lt htn
      refine ⟨rfl, yes_then ?_⟩
      refine ⟨_, rfl, _, rfl, a, C, dx, _, _, rfl, s2 _ _ q1, T.cl, T.nE, sf_e _ _ _ _, _, rfl, ae, _, _, _, rfl, rfl, SqL.of (s2 _ _ q2), atI_nat (nv_get (get_to hg.e.len htn)), ?_⟩
      refine ⟨c, _, _, _, rfl, rfl, SqL.of (s2 _ _ hc), atI_nat (nv_get (get_to hli.len e1)), ?_⟩
      rw [to_inverse e1]
      refine ⟨_, hp2, ?_, same_set hp s2, ?_⟩
      · rw [nv_len, List.length_take]; exact lt_size (by have := hl.len; omega)
      · rw [upd_same]
        have e3 : (renamed g l).east[i]? = some (from_ l (to g.east t)) := by
          show (l.map fun s => l.idxOf (to g.east s))[i]? = _
          rw [List.getElem?_map, ht]; rfl
        rw [List.take_add_one, e3, nv_append]; rfl
    · rintro H2 ⟨s2, hp2⟩
      have hp3 : H2 p = some (.lst (nv (renamed g l).east)) := by
        rw [hp2, nv_len, List.take_of_length_le (by show (List.map _ _).length ≤ _; rw [List.length_map]; exact Nat.le_refl _)]
      refine ⟨_, rfl, o, rfl, ⟨_, SqL.of (s2 _ _ ho1)⟩, fun r hr => ?_⟩
      refine lc_list (K := K) (a := o) (xs := nv l) (fun i H' => Same H2 H' ∧ H' r = some (.lst (nv ((renamed g l).north.take i)))) ⟨same_upd hr, upd_same⟩ (fun i H' _ ⟨z, _⟩ => SqL.of (z _ _ (s2 _ _ ho1))) ?_ ?_
      · rintro i x H' hi ⟨s3, hp4⟩
        obtain ⟨t, ht, rfl⟩ := nv_get_inv hi
        have hil : i < l.length := (List.getElem?_eq_some_iff.mp ht).1
        have htn : t < g.n := (hl.mem t).mp (List.mem_of_getElem? ht)
        have e1 := hg.n.to_lt htn
        have s4 := s2.trans s3
        refine ⟨rfl, yes_then ?_⟩
        refine ⟨_, rfl, _, rfl, a, C, dx, _, _, rfl, s4 _ _ q1, T.cl, T.nN, sf_n _ _ _ _, _, rfl, an, _, _, _, rfl, rfl, SqL.of (s4 _ _ q3), atI_nat (nv_get (get_to hg.n.len htn)), ?_⟩
        refine ⟨c, _, _, _, rfl, rfl, SqL.of (s4 _ _ hc), atI_nat (nv_get (get_to hli.len e1)), ?_⟩
        rw [to_inverse e1]
        refine ⟨_, hp4, ?_, same_set hr s3, ?_⟩
        · rw [nv_len, List.length_take]; exact lt_size (by have := hl.len; omega)
        · rw [upd_same]
          have e3 : (renamed g l).north[i]? = some (from_ l (to g.north t)) := by
            show (l.map fun s => l.idxOf (to g.north s))[i]? = _
            rw [List.getElem?_map, ht]; rfl
          rw [List.take_add_one, e3, nv_append]; rfl
      · rintro H3 ⟨s3, hr2⟩
        have hr3 : H3 r = some (.lst (nv (renamed g l).north)) := by
          rw [hr2, nv_len, List.take_of_length_le (by show (List.map _ _).length ≤ _; rw [List.length_map]; exact Nat.le_refl _)]
        refine ⟨_, rfl, _, rfl, p, r, _, _, rfl, rfl, s3 _ _ hp3, hr3, ?_, fun z hz => ?_⟩
        · rw [nv_len, nv_len]
          refine le_size ?_
          show (List.map _ _).length + (List.map _ _).length ≤ _
          rw [List.length_map, List.length_map, hl.len]; omega
        · have s5 := s1.trans (s2.trans s3)
          refine k _ z (s5.trans (same_upd hz)) (s5.free hz) ?_
          rw [upd_same, ← nv_append]; rfl
end
end Sq
set_option Elab.async false
set_option linter.unusedVariables false
set_option maxRecDepth 100000
set_option maxHeartbeats 2000000
namespace Sq
open PySem PySem.Spec PyProof.Rows L2
open Krct (Glued to from_ inverse cycleOf cycles cycle order orderFrom renamed)
/-! ### all_renamed -/
abbrev sAll : Stmt := top 14
theorem scAll : FnScope ["surface", "square"] ["surface"] (defScope sAll) := ⟨rfl, rfl, rfl, by decide +kernel, rfl, by decide +kernel, by decide +kernel⟩
/-- a list of lists, at its places -/
def RowsAt (H : Hp) (rs : List Addr) (ls : List (List Nat)) : Prop := rs.length = ls.length ∧ ∀ (i : Nat) (r : Addr) (l : List Nat), rs[i]? = some r → ls[i]? = some l → H r = some (.lst (nv l))
theorem RowsAt.same {H H' : Hp} {rs : List Addr} {ls : List (List Nat)} (s : Same H H') (h : RowsAt H rs ls) : RowsAt H' rs ls := ⟨h.1, fun i r l a b => s _ _ (h.2 i r l a b)⟩
theorem RowsAt.nil {H : Hp} : RowsAt H [] [] := ⟨rfl, fun i r l a => by simp at a⟩
theorem RowsAt.snoc {H : Hp} {rs : List Addr} {ls : List (List Nat)} {r : Addr} {l : List Nat} (h : RowsAt H rs ls) (hr : H r = some (.lst (nv l))) : RowsAt H (rs ++ [r]) (ls ++ [l]) := by
  refine ⟨by simp [h.1], fun i r' l' a b => ?_⟩
  by_cases c : i < rs.length
  · rw [List.getElem?_append_left c] at a
    rw [List.getElem?_append_left (by rw [← h.1]; exact c)] at b
    exact h.2 i r' l' a b
  · rw [List.getElem?_append_right (by omega)] at a
    rw [List.getElem?_append_right (by rw [← h.1]; omega)] at b
    by_cases z : i - rs.length = 0
    · rw [z] at a
      rw [← h.1, z] at b
      cases a; cases b
      exact hr
    · rw [List.getElem?_eq_none (by simp; omega)] at a; cases a
def tabs (g : Glued) : List (List Nat) := (List.range g.n).map fun s => both (tab g s)
def spAll (C : Addr) : Sp := fun vs H Q _ => ∃ (a : Addr) (g : Glued), vs = [.ref a] ∧ SurfAt C H a g ∧ Ok g ∧ g.n ≤ 6 ∧
  ∀ (H' : Hp) (p : Addr) (rs : List Addr), Same H H' → H p = none → H' p = some (.lst (rs.map V.ref)) → RowsAt H' rs (tabs g) → Q (.ref p) H'
theorem refs_ne {rs : List Addr} {l : List Nat} {j : Nat} {r : Addr} (h : rs[j]? = some r) (e : rs.map V.ref = nv l) : False := by
  cases rs with
  | nil => simp at h
  | cons a rs =>
    cases l with
    | nil => cases e
    | cons b l =>
      have e' : V.ref a :: rs.map V.ref = V.int (b : Int) :: nv l := e
      injection e' with e1 e2
      cases e1
section
variable {P : Program} {w : World} {K : PySem.W.Frag} {mg : Str → Option Value} {base : Heap} {C fS : Addr} {fdS : FuncData}
theorem ok_all {f f1 f2 : Addr} {fd fd1 fd2 : FuncData} (T : SurfC K mg C fS fdS) (B : Blt mg) (D : DefAt K mg "all_renamed" sAll ["surface"] f fd) (D1 : DefAt K mg "order_from" sOrder ["square", "surface"] f1 fd1) (D2 : DefAt K mg "renamed" sRenamed ["order", "surface"] f2 fd2)
    (G1 : FnOk P w K mg base CX0 1 f1 fd1 ["square", "surface"] (spOrder C)) (G2 : FnOk P w K mg base CX0 2 f2 fd2 ["order", "surface"] (spRenamed C)) : FnOk P w K mg base CX0 3 f fd ["surface"] (spAll C) := by
  refine D.F.ok scAll (fun vs H Q E h => ?_) (fun cdv A outer s0 H vs Q E hr h => ?_)
  · obtain ⟨a, g, rfl, _⟩ := h
    rfl
  · obtain ⟨a, g, rfl, hS, hg, hn, k⟩ := h
    have nd := scAll.nd
    refine ⟨_, pss_one (ps_ret (pe_lc (own := [("square", 1)]) (g := gName 1) (tt := tYes) (te := tCall (spRenamed C) [] E0 (tCons (tCall (spOrder C) [] E0 (tCons (tVar 1) (tCons (tVar 0) tNil))) (tCons (tVar 0) tNil))) rfl nd
      (pi_range1 (by rfl) B.range (pa_cons (pe_callB call_len_seq (by rfl) B.len PySem.boot_len (pa_cons (pe_fld (pv 0) rfl) pa_nil)) pa_nil))
      (blkOk_by (N := ["surface", "square"]) (sc := defScope sAll) (by decide +kernel)) (fun _ _ _ _ _ => pg_name (i := 1) nd rfl (Or.inl rfl)) (fun _ _ _ _ _ => pts_nil)
      (fun _ _ _ _ _ => pe_call G2 hr (by rfl) D2.g D2.F.kp D2.b .nil pass0 (pa_cons (pe_call G1 (hr.mono (by decide)) (by rfl) D1.g D1.F.kp D1.b .nil pass0 (pa_cons (pv 1) (pa_cons (pv 0) pa_nil))) (pa_cons (pv 0) pa_nil))))), ?_⟩
    obtain ⟨dx, ae, an, aw, as, q1, q2, q3, q4, q5⟩ := id hS
    refine ⟨_, rfl, a, C, dx, _, _, rfl, q1, T.cl, T.nE, sf_e _ _ _ _, ae, _, rfl, .inl (SqL.of q2), g.n, (by rw [nv_len, hg.e.len]), by omega, by omega, fun p hp => ?_⟩
    refine lc_range (lo := 0) (n := g.n) (fun i H' => ∃ rs : List Addr, Same H H' ∧ H' p = some (.lst (rs.map V.ref)) ∧ RowsAt H' rs ((tabs g).take i)) ⟨[], same_upd hp, upd_same, RowsAt.nil⟩ ?_ ?_
    · rintro i H' hi ⟨rs, s1, hp1, R⟩
      rw [Int.zero_add]
      refine ⟨rfl, yes_then ?_⟩
      refine ⟨_, rfl, _, rfl, a, i, g, rfl, hS.same s1, hg.toGl, hi, hn, fun H2 o s2 no ho => ?_⟩
      refine ⟨_, rfl, o, a, _, g, rfl, ho, hg.from_ hi, hS.same (s1.trans s2), hg.toGl, hn, fun H3 r s3 nr hr3 => ?_⟩
      have s5 := s2.trans s3
      refine ⟨_, s5 _ _ hp1, ?_, rs ++ [r], same_set hp (s1.trans s5), ?_, ?_⟩
      · rw [List.length_map, R.1, List.length_take]; exact lt_size (by omega)
      · rw [upd_same, List.map_append]; rfl
      · have e : (tabs g).take (i + 1) = (tabs g).take i ++ [both (tab g i)] := by
          rw [List.take_add_one]
          congr 1
          unfold tabs
          rw [List.getElem?_map, List.getElem?_range hi]; rfl
        rw [e]
        have hpr : p ≠ r := fun z => by
          rw [← z] at nr
          have := s2 _ _ hp1
          rw [nr] at this; cases this
        have R2 : RowsAt (upd H3 p (.lst (rs.map V.ref ++ [V.ref r]))) rs ((tabs g).take i) := ⟨R.1, fun j r' l a1 b1 => by
          have h9 := R.2 j r' l a1 b1
          have : r' ≠ p := fun z => by
            rw [z] at h9
            have e9 := hp1.symm.trans h9
            injection e9 with e9
            injection e9 with e9
            exact refs_ne a1 e9
          rw [upd_ne this]; exact s5 _ _ h9⟩
        exact R2.snoc (by rw [upd_ne (Ne.symm hpr)]; exact hr3)
    · rintro H' ⟨rs, s1, hp1, R⟩
      rw [List.take_of_length_le (by unfold tabs; simp)] at R
      exact k H' p rs s1 hp hp1 R
end
end Sq
set_option Elab.async false
set_option linter.unusedVariables false
set_option maxRecDepth 100000
set_option maxHeartbeats 2000000
/-! ### rules of my own: min of lists, count of lists, max with a default -/
namespace Sq
open PySem PySem.Spec PyProof.Rows L2
open PySem.W (Holds HoldAll DatumOrd minOf maxOf)
def IntL (l : List Nat) : List Int := l.map fun (x : Nat) => (x : Int)
theorem IntL_inj {a b : List Nat} (h : IntL a = IntL b) : a = b := by
  unfold IntL at h
  exact (List.map_inj_right (fun x y e => by omega)).mp h
theorem nv_IntL (l : List Nat) : nv l = (IntL l).map V.int := nv_ints l
section
variable {X : Cx} {pins : List (Addr × Obj)} {σ : L2.St} {H : Hp} {s : Shared}
theorem hold_ints (I : Inv X pins σ H s) {r : Addr} {ns : List Int} (h : SqL X.K H r (ns.map V.int)) : Holds s.heap (.ref r) ns := by
  obtain ⟨its, rv, hl, _⟩ := I.list h
  exact PySem.W.holds_list hl.isList (PySem.W.HoldAll.of_ints (by simpa using rv.ints))
theorem hold_row (I : Inv X pins σ H s) {r : Addr} {l : List Nat} (h : H r = some (.lst (nv l))) : Holds s.heap (.ref r) (IntL l) :=
  hold_ints I (SqL.of (by rw [← nv_IntL]; exact h))
theorem hold_rows (I : Inv X pins σ H s) : ∀ {rs : List Addr} {ls : List (List Nat)}, RowsAt H rs ls → HoldAll s.heap (rs.map Value.ref) (ls.map IntL)
  | [], [], _ => PySem.W.HoldAll.nil
  | [], _ :: _, h => absurd h.1 (by simp)
  | _ :: _, [], h => absurd h.1 (by simp)
  | r :: rs, l :: ls, h => by
    refine PySem.W.HoldAll.cons (hold_row I (h.2 0 r l rfl rfl)) (hold_rows I ⟨by simpa using h.1, fun i r' l' a b => h.2 (i + 1) r' l' (by simpa using a) (by simpa using b)⟩)
theorem refs_vals : ∀ {rs : List Addr} {us : List Value}, Vals (rs.map V.ref) us → us = rs.map Value.ref
  | [], us, h => by cases h; rfl
  | r :: rs, us, h => by
    rw [List.map_cons] at h
    cases h with
    | cons e t =>
      obtain rfl : _ = Value.ref r := e
      rw [refs_vals t]; rfl
theorem ints_uniq {vs : List Value} {a b : List Int} (h : IntsAre vs a) (k : IntsAre vs b) : a = b := by
  induction h generalizing b with
  | nil => cases k; rfl
  | cons n t h ih =>
    cases k with
    | cons m u k => rw [ih k]
theorem hold_uniq {h : Heap} {v : Value} {a b : List Int} (h1 : Holds h v a) (h2 : Holds h v b) : a = b := by
  obtain ⟨l, vs, rfl, q1, q2⟩ := PySem.W.list_of_holds h1
  obtain ⟨l', vs', e, q3, q4⟩ := PySem.W.list_of_holds h2
  cases e
  obtain ⟨o, ho, z⟩ := q1
  obtain ⟨o', ho', z'⟩ := q3
  rw [ho] at ho'
  cases ho'
  have ev : vs = vs' := by
    obtain ⟨_, c, e1⟩ := z
    obtain ⟨_, c', e2⟩ := z'
    rw [e1] at e2
    injection e2
  subst ev
  exact ints_uniq (PySem.W.HoldAll.toInts q2) (PySem.W.HoldAll.toInts q4)
end
def rMinL (K : PySem.W.Frag) : List V → Hp → VK → Prop := fun vs H Q => ∃ (a : Addr) (rs : List Addr) (x : List Nat) (xs : List (List Nat)), vs = [V.ref a] ∧ SqL K H a (rs.map V.ref) ∧ RowsAt H rs (x :: xs) ∧
  ∀ (i : Nat) (r : Addr) (l : List Nat), rs[i]? = some r → (x :: xs)[i]? = some l → IntL l = minOf (IntL x) (xs.map IntL) → Q (.ref r) H
def rCountL (K : PySem.W.Frag) : V → List V → Hp → VK → Prop := fun v ys H Q => ∃ (p r : Addr) (rs : List Addr) (ls : List (List Nat)) (l : List Nat), v = .ref p ∧ ys = [.ref r] ∧ SqL K H p (rs.map V.ref) ∧ RowsAt H rs ls ∧ H r = some (.lst (nv l)) ∧
  Q (.int ((ls.countP fun k => decide (k = l) : Nat) : Int)) H
def rMaxD (K : PySem.W.Frag) : List V → List V → Hp → VK → Prop := fun vs zs H Q => ∃ (a : Addr) (ns : List Int) (d : Int), vs = [V.ref a] ∧ zs = [.int d] ∧ SqL K H a (ns.map V.int) ∧
  (ns = [] → Q (.int d) H) ∧ (∀ n ns', ns = n :: ns' → Q (.int (maxOf n ns')) H)
section
variable {X : Cx}
theorem cr_minL (hc : X.calm = true) (hu : X.A.units + 3 < cLine) : CallR X (.builtin "min") (rMinL X.K) := by
  intro pins s σ H vs us Q I r h
  obtain ⟨a, rs, x, xs, rfl, hs, R, q⟩ := h
  obtain ⟨its, rv, hl, _⟩ := I.list hs
  rw [Vals.ref1 r]
  have ei := refs_vals rv
  subst ei
  have HA := hold_rows I R
  rw [List.map_cons] at HA
  refine PySem.W.min_list_datum (α := List Int) (I.ok.hd hc) hl.isList (by simpa using HA) (Nat.lt_of_le_of_lt (by show X.A.units + 1 + 1 ≤ _; omega) hu) fun i v h' tk hv hm hk => ?_
  have hv' : (rs.map Value.ref)[i]? = some v := by simpa using hv
  rw [List.getElem?_map] at hv'
  cases e : rs[i]? with
  | none => rw [e] at hv'; cases hv'
  | some p =>
    rw [e] at hv'
    have : Value.ref p = v := Option.some.inj hv'
    subst this
    have hi : i < (x :: xs).length := by rw [← R.1]; exact (List.getElem?_eq_some_iff.mp e).1
    have hrow := R.2 i p _ e (List.getElem?_eq_getElem hi)
    have H1 := PySem.W.Holds.keeps hk (hold_row I hrow)
    exact ⟨.ref p, H, I.kept hk, rfl, q i p _ e (List.getElem?_eq_getElem hi) (hold_uniq H1 hm)⟩
theorem mt_countL (hu : X.A.units + 3 < cLine) : MtR X "list.count" (rCountL X.K) := by
  intro pins s σ H x xs v us Q I rx rxs h
  obtain ⟨p, r, rs, ls, l, rfl, rfl, hs, R, hr, q⟩ := h
  obtain ⟨its, rv, hl, _⟩ := I.list hs
  cases rx
  rw [Vals.ref1 rxs]
  have ei := refs_vals rv
  subst ei
  refine PySem.W.count_list_datum (α := List Int) (xs := ls.map IntL) (x := IntL l) hl.isList (by simpa using hold_rows I R) (hold_row I hr) (Nat.lt_of_le_of_lt (by show X.A.units + 1 + 1 ≤ _; omega) hu) ?_
  refine ⟨.int _, H, I.tok _, ⟨_, rfl⟩, ?_⟩
  rw [List.countP_map]
  have e : ((fun y => decide (y = IntL l)) ∘ IntL) = fun k => decide (k = l) := by
    funext k
    simp only [Function.comp]
    rw [decide_eq_decide]
    exact ⟨IntL_inj, fun e => by rw [e]⟩
  rw [e]
  exact q
theorem cr_maxDef (hc : X.calm = true) (hu : X.A.units + 3 < cLine) : CallRK X (.builtin "max") [Str.ofString "default"] (rMaxD X.K) := by
  intro pins s σ H vs zs us ws Q I r rz h
  obtain ⟨a, ns, d, rfl, rfl, hs, q0, q1⟩ := h
  obtain ⟨its, rv, hl, _⟩ := I.list hs
  rw [Vals.ref1 r]
  obtain ⟨w1, rfl, e1⟩ := vals1 rz
  refine PySem.W.max_list_datum_default (α := Int) (xs := ns) (I.ok.hd hc) hl.isList (PySem.W.HoldAll.of_ints (by simpa using rv.ints)) (Nat.lt_of_le_of_lt (by show X.A.units + 1 + 0 ≤ _; omega) hu) (fun e h' tk hk => ?_) (fun y ys i v h' tk e hv hm hk => ?_)
  · exact ⟨.int d, H, I.kept hk, e1, q0 e⟩
  · obtain ⟨t, rfl⟩ := PySem.W.int_of_holds hm
    exact ⟨.int _, H, I.kept hk, ⟨t, rfl⟩, q1 y ys e⟩
end
end Sq
set_option Elab.async false
set_option linter.unusedVariables false
set_option maxRecDepth 100000
set_option maxHeartbeats 2000000
namespace Sq
open PySem PySem.Spec PyProof.Rows L2
open PySem.W (DatumOrd minOf maxOf listLt)
open Krct (Glued to from_ inverse order orderFrom renamed name less lexLess)
/-! ### the least name -/
theorem listLt_lex : ∀ {a b : List Nat}, a.length = b.length → listLt (IntL a) (IntL b) = lexLess a b
  | [], [], _ => rfl
  | [], _ :: _, h => by simp at h
  | _ :: _, [], h => by simp at h
  | a :: l, b :: k, h => by
    have ih := listLt_lex (a := l) (b := k) (by simpa using h)
    show (if (a : Int) = (b : Int) then listLt (IntL l) (IntL k) else decide ((a : Int) < (b : Int))) = (decide (a < b) || (a == b && lexLess l k))
    rw [ih]
    by_cases e : a = b
    · subst e; simp
    · rw [if_neg (by omega)]
      have : (a == b) = false := by simpa using e
      rw [this, Bool.false_and, Bool.or_false, decide_eq_decide]; omega
theorem lt_less {n : Nat} {a b : Glued} (ha : Tab n a) (hb : Tab n b) : DatumOrd.lt (IntL (both a)) (IntL (both b)) = less a b := by
  show listLt (IntL (both a)) (IntL (both b)) = lexLess (both a) (both b)
  exact listLt_lex (by unfold both; simp [ha.e, ha.nn, hb.e, hb.nn])
theorem minOf_keep {n : Nat} : ∀ (ts : List Glued) (m : Glued), Tab n m → (∀ t ∈ ts, Tab n t) → minOf (IntL (both m)) (ts.map fun t => IntL (both t)) = IntL (both (ts.foldl keep m))
  | [], m, _, _ => rfl
  | t :: ts, m, hm, ht => by
    have h1 := ht t (by simp)
    have hk : Tab n (keep m t) := by rcases keep_or m t with e | e <;> rw [e] <;> assumption
    rw [List.foldl_cons, ← minOf_keep ts (keep m t) hk (fun x hx => ht x (by simp [hx]))]
    show List.foldl _ (if DatumOrd.lt (IntL (both t)) (IntL (both m)) = true then IntL (both t) else IntL (both m)) _ = List.foldl _ _ _
    rw [lt_less h1 hm]
    unfold keep
    by_cases c : less t m = true
    · rw [if_pos c, if_pos c]
    · rw [if_neg c, if_neg c]
theorem keep_self (m : Glued) : keep m m = m := by
  unfold keep; rw [less_irrefl]; rfl
theorem tabs_cons {g : Glued} (h : 0 < g.n) : tabs g = both (tab g 0) :: ((List.range (g.n - 1)).map fun s => both (tab g (s + 1))) := by
  unfold tabs
  obtain ⟨m, e⟩ : ∃ m, g.n = m + 1 := ⟨g.n - 1, by omega⟩
  rw [e, List.range_succ_eq_map, List.map_cons, List.map_map]
  rfl
theorem minOf_name {g : Glued} (h : Ok g) : minOf (IntL (both (tab g 0))) (((List.range (g.n - 1)).map fun s => both (tab g (s + 1))).map IntL) = IntL (both (name g)) := by
  have e1 : ((List.range (g.n - 1)).map fun s => both (tab g (s + 1))).map IntL = ((List.range (g.n - 1)).map fun s => tab g (s + 1)).map fun t => IntL (both t) := by
    rw [List.map_map, List.map_map]; rfl
  rw [e1, minOf_keep (n := g.n) _ _ (tab_tab h h.pos) (fun t ht => by
    obtain ⟨s, hs, rfl⟩ := List.mem_map.mp ht
    exact tab_tab h (by have := List.mem_range.mp hs; omega))]
  rw [name_fold]
  obtain ⟨m, e⟩ : ∃ m, g.n = m + 1 := ⟨g.n - 1, by have := h.pos; omega⟩
  congr 2
  rw [e, List.range_succ_eq_map, List.map_cons, List.foldl_cons, keep_self, List.map_map]
  rfl
theorem both_inj {n : Nat} {a b : Glued} (ha : Tab n a) (hb : Tab n b) (e : both a = both b) : a = b := by
  unfold both at e
  obtain ⟨e1, e2⟩ := List.append_inj e (by rw [ha.e, hb.e])
  exact glued_ext (ha.c.trans hb.c.symm) e1 e2
theorem count_selves_is {g : Glued} (h : Ok g) : ((tabs g).countP fun k => decide (k = both (tab g 0))) = Krct.selves g := by
  unfold tabs Krct.selves Glued.squares
  rw [List.countP_map, List.countP_eq_length_filter]
  congr 1
  refine List.filter_congr fun s hs => ?_
  have hs' := List.mem_range.mp hs
  show decide (both (tab g s) = both (tab g 0)) = (tab g s == tab g 0)
  rw [Bool.eq_iff_iff, decide_eq_true_iff, beq_iff_eq]
  exact ⟨fun e => both_inj (tab_tab h hs') (tab_tab h h.pos) e, fun e => by rw [e]⟩
abbrev sName : Stmt := top 15
theorem scName : FnScope ["surface"] ["surface"] (defScope sName) := ⟨rfl, rfl, rfl, by decide +kernel, rfl, by decide +kernel, by decide +kernel⟩
def spName (C : Addr) : Sp := fun vs H Q _ => ∃ (a : Addr) (g : Glued), vs = [.ref a] ∧ SurfAt C H a g ∧ Ok g ∧ g.n ≤ 6 ∧
  ∀ (H' : Hp) (p : Addr), Same H H' → H' p = some (.lst (nv (both (name g)))) → Q (.ref p) H'
abbrev sSelves : Stmt := top 16
theorem scSelves : FnScope ["surface", "tables"] ["surface"] (defScope sSelves) := ⟨rfl, rfl, rfl, by decide +kernel, rfl, by decide +kernel, by decide +kernel⟩
def spSelves (C : Addr) : Sp := fun vs H Q _ => ∃ (a : Addr) (g : Glued), vs = [.ref a] ∧ SurfAt C H a g ∧ Ok g ∧ g.n ≤ 6 ∧
  ∀ (H' : Hp), Same H H' → Q (.int (Krct.selves g : Int)) H'
section
variable {P : Program} {w : World} {K : PySem.W.Frag} {mg : Str → Option Value} {base : Heap} {C fS : Addr} {fdS : FuncData}
theorem ok_name {f f1 : Addr} {fd fd1 : FuncData} (B : Blt mg) (D : DefAt K mg "name_of" sName ["surface"] f fd) (D1 : DefAt K mg "all_renamed" sAll ["surface"] f1 fd1)
    (G1 : FnOk P w K mg base CX0 3 f1 fd1 ["surface"] (spAll C)) : FnOk P w K mg base CX0 4 f fd ["surface"] (spName C) := by
  refine D.F.ok scName (fun vs H Q E h => ?_) (fun cdv A outer s0 H vs Q E hr h => ?_)
  · obtain ⟨a, g, rfl, _⟩ := h
    rfl
  · obtain ⟨a, g, rfl, hS, hg, hn, k⟩ := h
    refine ⟨_, pss_one (ps_ret (pe_callB (cr_minL rfl (Nat.lt_of_le_of_lt (Nat.add_le_add_left (by decide) _) hr.units)) (by rfl) B.min (by decide +kernel) (pa_cons (pe_call G1 hr (by rfl) D1.g D1.F.kp D1.b .nil pass0 (pa_cons (pv 0) pa_nil)) pa_nil))), ?_⟩
    refine ⟨_, rfl, a, g, rfl, hS, hg, hn, fun H1 p rs s1 np hp R => ?_⟩
    rw [tabs_cons hg.pos] at R
    refine ⟨p, rs, _, _, rfl, SqL.of hp, R, fun i r l hi hl e => ?_⟩
    rw [minOf_name hg] at e
    have := R.2 i r l hi hl
    rw [IntL_inj e] at this
    exact k H1 r s1 this
theorem ok_selves {f f1 : Addr} {fd fd1 : FuncData} (B : Blt mg) (D : DefAt K mg "count_selves" sSelves ["surface"] f fd) (D1 : DefAt K mg "all_renamed" sAll ["surface"] f1 fd1)
    (G1 : FnOk P w K mg base CX0 3 f1 fd1 ["surface"] (spAll C)) : FnOk P w K mg base CX0 4 f fd ["surface"] (spSelves C) := by
  refine D.F.ok scSelves (fun vs H Q E h => ?_) (fun cdv A outer s0 H vs Q E hr h => ?_)
  · obtain ⟨a, g, rfl, _⟩ := h
    rfl
  · obtain ⟨a, g, rfl, hS, hg, hn, k⟩ := h
    have nd := scSelves.nd
    refine ⟨_, pss_cons (ps_set (i := 1) nd rfl (.inl rfl) (pe_call G1 hr (by rfl) D1.g D1.F.kp D1.b .nil pass0 (pa_cons (pv 0) pa_nil)))
      (pss_one (ps_ret (pe_bm PySem.F.plainAttrs_list PySem.F.slot_list_count PySem.F.type_list_count (mt_countL (Nat.lt_of_le_of_lt (Nat.add_le_add_left (by decide) _) hr.units)) (pv 1) (pa_cons (pe_ix ix_list (pv 1) pe_int (fun _ _ => rfl)) pa_nil)))), ?_⟩
    refine ⟨_, rfl, a, g, rfl, hS, hg, hn, fun H1 p rs s1 np hp R => ?_⟩
    obtain ⟨r, hr0⟩ : ∃ r, rs[0]? = some r := ⟨_, List.getElem?_eq_getElem (by rw [R.1, tabs_cons hg.pos]; simp)⟩
    have e0 := R.2 0 r (both (tab g 0)) hr0 (by rw [tabs_cons hg.pos]; rfl)
    refine ⟨_, rfl, .inl ⟨rfl, _, SqL.of hp⟩, _, rfl, p, _, _, _, rfl, rfl, SqL.of hp, atI_nat (j := 0) (v := V.ref r) (by rw [List.getElem?_map, hr0]; rfl), p, r, rs, tabs g, both (tab g 0), rfl, rfl, SqL.of hp, R, e0, ?_⟩
    rw [count_selves_is hg]
    exact k H1 s1
end
end Sq
set_option Elab.async false
set_option linter.unusedVariables false
set_option maxRecDepth 100000
set_option maxHeartbeats 2000000
namespace Sq
open PySem PySem.Spec PyProof.Rows L2
open Krct (Glued to from_ inverse after order orderFrom renamed name less lexLess)
open Krcu (shear unshear turn)
/-- a number of the program's top -/
def Cn (mg : Str → Option Value) (x : Str) (i : Int) : Prop := ∃ t, mg x = some (.int i t)
theorem pe_cn {X : Cx} {x : Str} {i : Int} {pos : Pos} (h : Cn X.mg x i) (hg : L2.Gl X x) (hd : (x == ("__debug__" : Str)) = false := by decide) : PE X (.Name x pos) (tC (.int i)) := by
  obtain ⟨t, e⟩ := h
  exact pe_glob hg e ⟨t, rfl⟩ hd
structure Nums (mg : Str → Option Value) : Prop where
  BEGIN : Cn mg "BEGIN" 0
  GLUE : Cn mg "GLUE" 1
  CORNERS : Cn mg "CORNERS" 2
  HOLES : Cn mg "HOLES" 3
  ROWS : Cn mg "ROWS" 4
  NAME : Cn mg "NAME" 5
  SELVES : Cn mg "SELVES" 6
  STATE : Cn mg "STATE" 7
  DO : Cn mg "DO" 8
  ORBIT : Cn mg "ORBIT" 9
  WHEELS : Cn mg "WHEELS" 10
  WHEEL : Cn mg "WHEEL" 11
  WAY : Cn mg "WAY" 12
  REACHES : Cn mg "REACHES" 13
  LEAST : Cn mg "LEAST" 14
  PLACE : Cn mg "PLACE" 15
  FIXES : Cn mg "FIXES" 16
  NOT_BEGUN : Cn mg "NOT_BEGUN" (-11)
  NOT_RIGHT : Cn mg "NOT_RIGHT" (-22)
  NOT_TOGETHER : Cn mg "NOT_TOGETHER" (-33)
  NO_WAY : Cn mg "NO_WAY" (-34)
  TOO_MANY : Cn mg "TOO_MANY" (-75)
  SHEARED : Cn mg "SHEARED" 0
  SHEARED_BACK : Cn mg "SHEARED_BACK" 1
  TURNED : Cn mg "TURNED" 2
  MOST_SQUARES : Cn mg "MOST_SQUARES" 6
  MOST_MOVES : Cn mg "MOST_MOVES" 30
  MOST_NAMES : Cn mg "MOST_NAMES" 120
/-! ### moved -/
abbrev sMoved : Stmt := top 17
theorem scMoved : FnScope ["move", "surface", "there"] ["move", "surface"] (defScope sMoved) := ⟨rfl, rfl, rfl, by decide +kernel, rfl, by decide +kernel, by decide +kernel⟩
def spMoved (C : Addr) : Sp := fun vs H Q _ => ∃ (a : Addr) (m : Nat) (g : Glued), vs = [.int (m : Int), .ref a] ∧ m < 3 ∧ SurfAt C H a g ∧ Gl g ∧ g.n ≤ 6 ∧
  ∀ (H' : Hp) (p : Addr), Same H H' → H p = none → SurfAt C H' p (mv m g) → (∀ t o, H t = some o → Off C t H a → Off C t H' p) → Q (.ref p) H'
section
variable {P : Program} {w : World} {K : PySem.W.Frag} {mg : Str → Option Value} {base : Heap} {C fS : Addr} {fdS : FuncData}
theorem ok_moved {f : Addr} {fd : FuncData} (T : SurfC K mg C fS fdS) (Z : Nums mg) (D : DefAt K mg "moved" sMoved ["move", "surface"] f fd)
    (GS : FnOk P w K mg base CX0 2 fS fdS ["self", "east", "north"] (spSurf C)) : FnOk P w K mg base CX0 4 f fd ["move", "surface"] (spMoved C) := by
  refine D.F.ok scMoved (fun vs H Q E h => ?_) (fun cdv A outer s0 H vs Q E hr h => ?_)
  · obtain ⟨a, m, g, rfl, _⟩ := h
    rfl
  · obtain ⟨a, m, g, rfl, hm, hS, hg, hn, k⟩ := h
    have nd := scMoved.nd
    obtain ⟨dx, ae, an, aw, as, q1, q2, q3, q4, q5⟩ := id hS
    refine ⟨_, pss_cons (ps_if (pt_cmpR op_eq (pv 0) (pe_cn Z.SHEARED (by rfl)) (nomark _))
        (pss_one (ps_ret (pe_make T.M GS hr (by rfl) T.g T.b .nil pass0 (pa_cons (pe_fld (pv 1) rfl) (pa_cons (pe_lc (own := [("there", 2)]) (g := gName 2) (tt := tYes) (te := tOp (rIxL K) (tFld K (tVar 1) "north") (tVar 2)) rfl nd (pi_list (pe_fld (pv 1) rfl)) (blkOk_by (N := ["move", "surface", "there"]) (sc := defScope sMoved) (by decide +kernel)) (fun _ _ _ _ _ => pg_name (i := 2) nd rfl (Or.inl rfl)) (fun _ _ _ _ _ => pts_nil)
          (fun _ _ _ _ _ => pe_ix ix_list (pe_fld (pv 1) rfl) (pv 2) (fun _ _ => rfl))) pa_nil))))) pss_nil)
      (pss_cons (ps_if (pt_cmpR op_eq (pv 0) (pe_cn Z.SHEARED_BACK (by rfl)) (nomark _))
        (pss_one (ps_ret (pe_make T.M GS hr (by rfl) T.g T.b .nil pass0 (pa_cons (pe_fld (pv 1) rfl) (pa_cons (pe_lc (own := [("there", 2)]) (g := gName 2) (tt := tYes) (te := tOp (rIxL K) (tFld K (tVar 1) "north") (tVar 2)) rfl nd (pi_list (pe_fld (pv 1) rfl)) (blkOk_by (N := ["move", "surface", "there"]) (sc := defScope sMoved) (by decide +kernel)) (fun _ _ _ _ _ => pg_name (i := 2) nd rfl (Or.inl rfl)) (fun _ _ _ _ _ => pts_nil)
          (fun _ _ _ _ _ => pe_ix ix_list (pe_fld (pv 1) rfl) (pv 2) (fun _ _ => rfl))) pa_nil))))) pss_nil)
      (pss_one (ps_ret (pe_make T.M GS hr (by rfl) T.g T.b .nil pass0 (pa_cons (pe_fld (pv 1) rfl) (pa_cons (pe_fld (pv 1) rfl) pa_nil)))))), ?_⟩
    -- a list of northern ones, by the squares of a list
    have lc : ∀ (b : Addr) (l : List Nat) (H0 : Hp) (q : Addr) (Qd : Hp → Prop), Same H H0 → H0 b = some (.lst (nv l)) → Prm g.n l → H0 q = none → (∀ H', Same H0 H' → H' q = some (.lst (nv (after l g.north))) → Qd H') →
        ∃ W : Nat → Nat → Hp → Prop, (∃ m, W 0 m (upd H0 q (.lst []))) ∧ ∀ i m' H, W i m' H → ((Itl K b).stop i H ∧ Qd H) ∨ ((Itl K b).go i H ∧ ∃ Nx : Hp → Prop, (∀ H', Nx H' → ∃ m'', m'' < m' ∧ W (i + 1) m'' H') ∧ ∀ x H', (Itl K b).yld i H x H' →
          gName 2 x (wipe (L2.start ["move", "surface", "there"] [.int (m : Int), .ref a]) [2]) H' fun σ2 H2 => wipe σ2 [2] = wipe (L2.start ["move", "surface", "there"] [.int (m : Int), .ref a]) [2] ∧ tYes σ2 H2 fun c H3 =>
            if c = true then tOp (rIxL K) (tFld K (tVar 1) "north") (tVar 2) σ2 H3 fun y H4 => ∃ acc, H4 q = some (.lst acc) ∧ acc.length < sizeLine ∧ Nx (upd H4 q (.lst (acc ++ [y]))) else Nx H3) := by
      intro b l H0 q Qd sH hb hl hq kd
      refine lc_list (K := K) (a := b) (xs := nv l) (fun i H' => Same H0 H' ∧ H' q = some (.lst (nv ((after l g.north).take i)))) ⟨same_upd hq, upd_same⟩ (fun i H' _ ⟨z, _⟩ => SqL.of (z _ _ hb)) ?_ ?_
      · rintro i x H' hi ⟨s2, hp2⟩
        obtain ⟨t, ht, rfl⟩ := nv_get_inv hi
        have hil : i < l.length := (List.getElem?_eq_some_iff.mp ht).1
        have htn : t < g.n := (hl.mem t).mp (List.mem_of_getElem? ht)
        have s3 := sH.trans s2
        refine ⟨rfl, yes_then ?_⟩
        refine ⟨_, rfl, a, C, dx, _, _, rfl, s3 _ _ q1, T.cl, T.nN, sf_n _ _ _ _, _, rfl, an, _, _, _, rfl, rfl, SqL.of (s3 _ _ q3), atI_nat (nv_get (get_to hg.n.len htn)), ?_⟩
        refine ⟨_, hp2, ?_, same_set hq s2, ?_⟩
        · rw [nv_len, List.length_take]; exact lt_size (by have := hl.len; omega)
        · rw [upd_same]
          have e3 : (after l g.north)[i]? = some (to g.north t) := by
            unfold after; rw [List.getElem?_map, ht]; rfl
          rw [List.take_add_one, e3, nv_append]; rfl
      · rintro H' ⟨s2, hp2⟩
        refine kd H' s2 ?_
        rw [hp2, nv_len, List.take_of_length_le (by unfold after; rw [List.length_map]; exact Nat.le_refl _)]
    -- the new surface
    have mk : ∀ (b c : Addr) (l k' : List Nat) (H1 : Hp), mv m g = ⟨g.n, l, k'⟩ → Same H H1 → H1 b = some (.lst (nv l)) → H1 c = some (.lst (nv k')) → Prm g.n l → Prm g.n k' → (∀ t o, H t = some o → Off C t H a → t ≠ b ∧ t ≠ c) →
        ∀ x dx', H1 x = none → H1 dx' = none → dx' ≠ x → spSurf C (.ref x :: ([.ref b, .ref c] ++ [])) (upd (upd H1 dx' (.own x)) x (.ins C dx' [])) (fun v H2 => v = .non ∧ Q (.ref x) H2) E0 := by
      intro b c l k' H1 e s1 hb hc hl hk hoff x dx' nx ndx nex
      have old : ∀ {y : Addr} {u : HO}, H1 y = some u → upd (upd H1 dx' (.own x)) x (.ins C dx' []) y = some u := fun {y u} h => by
        rw [upd_ne (ne_of_none h nx), upd_ne (ne_of_none h ndx)]; exact h
      refine ⟨x, dx', b, c, g.n, l, k', rfl, upd_same, old hb, old hc, hl, hk, hn, fun H2 J kp off => ⟨rfl, ?_⟩⟩
      exact k H2 x (s1.trans (Same.made nx ndx kp)) (s1.free nx) (by rw [e]; exact J) (fun t o et ot => off t o (old (s1 _ _ et)) (hoff t o et ot).1 (hoff t o et ot).2)
    refine ⟨_, rfl, rfl, _, rfl, ?_⟩
    obtain rfl | rfl | rfl : m = 0 ∨ m = 1 ∨ m = 2 := by omega
    ·
      refine br_t (by decide) ?_
      refine ⟨_, rfl, a, C, dx, _, _, rfl, q1, T.cl, T.nE, sf_e _ _ _ _, ?_⟩
      refine ⟨_, rfl, a, C, dx, _, _, rfl, q1, T.cl, T.nW, sf_w _ _ _ _, aw, rfl, ⟨_, SqL.of q4⟩, fun q hq => ?_⟩
      refine lc aw _ H q _ (Same.refl _) q4 (inverse_prm hg.e) hq fun H1 s1 hq1 => ?_
      exact mk ae q _ _ H1 rfl s1 (s1 _ _ q2) hq1 hg.e (shear_gl hg).n (fun t o et ot => ⟨Ne.symm (ot.inv q1).1, fun z => by rw [z, hq] at et; cases et⟩)
    ·
      refine br_f (by decide) ?_
      refine ⟨_, rfl, rfl, _, rfl, br_t (by decide) ?_⟩
      refine ⟨_, rfl, a, C, dx, _, _, rfl, q1, T.cl, T.nE, sf_e _ _ _ _, ?_⟩
      refine ⟨_, rfl, a, C, dx, _, _, rfl, q1, T.cl, T.nE, sf_e _ _ _ _, ae, rfl, ⟨_, SqL.of q2⟩, fun q hq => ?_⟩
      refine lc ae _ H q _ (Same.refl _) q2 hg.e hq fun H1 s1 hq1 => ?_
      exact mk ae q _ _ H1 rfl s1 (s1 _ _ q2) hq1 hg.e (unshear_gl hg).n (fun t o et ot => ⟨Ne.symm (ot.inv q1).1, fun z => by rw [z, hq] at et; cases et⟩)
    ·
      refine br_f (by decide) ?_
      refine ⟨_, rfl, rfl, _, rfl, br_f (by decide) ?_⟩
      refine ⟨_, rfl, a, C, dx, _, _, rfl, q1, T.cl, T.nS, sf_s _ _ _ _, ?_⟩
      refine ⟨_, rfl, a, C, dx, _, _, rfl, q1, T.cl, T.nE, sf_e _ _ _ _, ?_⟩
      exact mk as ae _ _ H rfl (Same.refl _) q5 q2 (inverse_prm hg.n) hg.e (fun t o et ot => ⟨Ne.symm (ot.inv q1).2.2.2, Ne.symm (ot.inv q1).1⟩)
end
end Sq
set_option Elab.async false
set_option linter.unusedVariables false
set_option maxRecDepth 100000
set_option maxHeartbeats 2000000
namespace Sq
open PySem PySem.Spec PyProof.Rows L2
open PySem.W (DatumOrd minOf maxOf)
open Krct (Glued to from_ inverse after order orderFrom renamed name isPerm)
/-! ### all_moved -/
abbrev sAllMoved : Stmt := top 18
theorem scAllMoved : FnScope ["moves", "surface", "move"] ["moves", "surface"] (defScope sAllMoved) := ⟨rfl, rfl, rfl, by decide +kernel, rfl, by decide +kernel, by decide +kernel⟩
theorem apply_is (g : Glued) (l : List Nat) : Krcv.apply g l = l.foldl (fun h i => mv i h) g := rfl
theorem apply_snoc {g : Glued} {l : List Nat} {i x : Nat} (h : l[i]? = some x) : Krcv.apply g (l.take (i + 1)) = mv x (Krcv.apply g (l.take i)) := by
  rw [apply_is, apply_is, List.take_add_one, h, List.foldl_append]; rfl
theorem apply_gl {g : Glued} (h : Ok g) : ∀ l : List Nat, Ok (Krcv.apply g l) ∧ (Krcv.apply g l).n = g.n := by
  intro l
  rw [apply_is]
  induction l generalizing g with
  | nil => exact ⟨h, rfl⟩
  | cons a l ih =>
    have := ih (mv_ok (m := a) h)
    rw [mv_n] at this
    exact this
def spAllMoved (C : Addr) : Sp := fun vs H Q _ => ∃ (b a : Addr) (l : List Nat) (g : Glued), vs = [.ref b, .ref a] ∧ H b = some (.lst (nv l)) ∧ (∀ m ∈ l, m < 3) ∧ SurfAt C H a g ∧ Ok g ∧ g.n ≤ 6 ∧
  ∀ (H' : Hp) (p : Addr), Same H H' → SurfAt C H' p (Krcv.apply g l) → (∀ t o, H t = some o → Off C t H a → Off C t H' p) → Q (.ref p) H'
section
variable {P : Program} {w : World} {K : PySem.W.Frag} {mg : Str → Option Value} {base : Heap} {C fS : Addr} {fdS : FuncData}
theorem ok_allMoved {f f1 : Addr} {fd fd1 : FuncData} (D : DefAt K mg "all_moved" sAllMoved ["moves", "surface"] f fd) (D1 : DefAt K mg "moved" sMoved ["move", "surface"] f1 fd1)
    (G1 : FnOk P w K mg base CX0 4 f1 fd1 ["move", "surface"] (spMoved C)) : FnOk P w K mg base CX0 5 f fd ["moves", "surface"] (spAllMoved C) := by
  refine D.F.ok scAllMoved (fun vs H Q E h => ?_) (fun cdv A outer s0 H vs Q E hr h => ?_)
  · obtain ⟨b, a, l, g, rfl, _⟩ := h
    rfl
  · obtain ⟨b, a, l, g, rfl, hb, hl, hS, hg, hn, k⟩ := h
    have nd := scAllMoved.nd
    refine ⟨_, pss_cons (ps_for PassesOwn.never rfl (pi_list (pv 0)) (pg_name (i := 2) nd rfl (.inl rfl))
        (pss_one (ps_set (i := 1) nd rfl (.inl rfl) (pe_call G1 hr (by rfl) D1.g D1.F.kp D1.b .nil pass0 (pa_cons (pv 2) (pa_cons (pv 1) pa_nil))))))
      (pss_one (ps_ret (pv 1))), ?_⟩
    refine ⟨_, rfl, b, rfl, ⟨_, SqL.of hb⟩, for_list (K := K) (a := b) (xs := nv l) (fun i σ H' => ∃ p v, σ = [some (.ref b), some (.ref p), v] ∧ Same H H' ∧ SurfAt C H' p (Krcv.apply g (l.take i)) ∧ ∀ t o, H t = some o → Off C t H a → Off C t H' p)
      ⟨a, none, rfl, Same.refl _, hS, fun _ _ _ h => h⟩ (fun i σ H' _ ⟨_, _, _, z, _⟩ => SqL.of (z _ _ hb)) ?_ ?_⟩
    · rintro i x σ H' hi ⟨p, v, rfl, s1, S1, off1⟩
      obtain ⟨t, ht, rfl⟩ := nv_get_inv hi
      obtain ⟨o1, o2⟩ := apply_gl hg (l.take i)
      refine ⟨_, rfl, _, rfl, p, t, _, rfl, hl t (List.mem_of_getElem? ht), S1, o1.toGl, by rw [o2]; exact hn, fun H2 q s2 nq S2 off2 => ?_⟩
      refine ⟨q, _, rfl, s1.trans s2, ?_, fun t o et ot => off2 t o (s1 _ _ et) (off1 t o et ot)⟩
      rw [apply_snoc ht]; exact S2
    · rintro σ H' ⟨p, v, rfl, s1, S1, off1⟩
      rw [nv_len, List.take_length] at S1
      exact ⟨_, rfl, k H' p s1 S1 off1⟩
end
/-! ### tells_all_once -/
def rEqI (K : PySem.W.Frag) : R2 := fun x y H Q => ∃ (a b : Addr) (ns ms : List Int), x = .ref a ∧ y = .ref b ∧ SqL K H a (ns.map V.int) ∧ SqL K H b (ms.map V.int) ∧ Q (.bl (decide (ns = ms))) H
theorem op_eqI {X : Cx} (hu : X.A.units + 3 < cLine) : OpR X (compareOp .Eq) (rEqI X.K) := by
  intro pins s σ H x y v u Q I rx ry h
  obtain ⟨a, b, ns, ms, rfl, rfl, h1, h2, q⟩ := h
  cases rx
  cases ry
  exact PySem.W.eq_datum (α := List Int) (hold_ints I h1) (hold_ints I h2) (Nat.lt_of_le_of_lt (by show X.A.units + 1 ≤ _; omega) hu) ⟨.bl _, H, I, rfl, q⟩
theorem rgV_nv (n : Nat) : rgV 0 (n : Int) = nv (List.range n) := by
  unfold rgV nv
  rw [Int.sub_zero]
  show List.map _ (List.range n) = _
  exact List.map_congr_left fun i _ => by rw [Int.zero_add]
theorem once_iff {n : Nat} {l : List Nat} {ns : List Int} (p : ns.Perm (IntL l)) (s : ns.Pairwise (· ≤ ·)) : decide (ns = IntL (List.range n)) = isPerm n l := by
  rw [Bool.eq_iff_iff, decide_eq_true_iff, isPerm_iff]
  constructor
  · intro e
    rw [e] at p
    have p2 := (p.map Int.toNat).symm
    have e1 : ∀ k : List Nat, (IntL k).map Int.toNat = k := fun k => by
      unfold IntL; rw [List.map_map]
      conv => rhs; rw [← List.map_id k]
      exact List.map_congr_left fun x _ => by simp
    rw [e1, e1] at p2
    exact p2
  · intro h
    have p2 : ns.Perm (IntL (List.range n)) := p.trans (List.Perm.map _ h)
    refine List.Perm.eq_of_pairwise (le := (· ≤ ·)) (fun a b _ _ h1 h2 => by omega) s ?_ p2
    unfold IntL
    rw [List.pairwise_map]
    exact List.pairwise_lt_range.imp fun h => by omega
abbrev sOnceAll : Stmt := top 56
theorem scOnceAll : FnScope ["row", "count"] ["row", "count"] (defScope sOnceAll) := ⟨rfl, rfl, rfl, by decide +kernel, rfl, by decide +kernel, by decide +kernel⟩
def spOnceAll : Sp := fun vs H Q _ => ∃ (a : Addr) (n : Nat) (l : List Nat), vs = [.ref a, .int (n : Int)] ∧ H a = some (.lst (nv l)) ∧ n ≤ 6 ∧
  ∀ (H' : Hp), Same H H' → Q (.bl (isPerm n l)) H'
section
variable {P : Program} {w : World} {K : PySem.W.Frag} {mg : Str → Option Value} {base : Heap} {C fS : Addr} {fdS : FuncData}
theorem ok_onceAll {f : Addr} {fd : FuncData} (B : Blt mg) (D : DefAt K mg "tells_all_once" sOnceAll ["row", "count"] f fd) : FnOk P w K mg base CX0 1 f fd ["row", "count"] spOnceAll := by
  refine D.F.ok scOnceAll (fun vs H Q E h => ?_) (fun cdv A outer s0 H vs Q E hr h => ?_)
  · obtain ⟨a, n, l, rfl, _⟩ := h
    rfl
  · obtain ⟨a, n, l, rfl, ha, hn, k⟩ := h
    refine ⟨_, pss_one (ps_ret (pe_cmpR (op_eqI (Nat.lt_of_le_of_lt (Nat.add_le_add_left (by decide) _) hr.units)) (pe_callB cr_sortedI (by rfl) B.sorted (by decide +kernel) (pa_cons (pv 0) pa_nil))
      (pe_listRg rfl (by rfl) B.list (prg_1 (by rfl) B.range (pv 1))) (nomark _))), ?_⟩
    refine ⟨_, rfl, a, IntL l, rfl, SqL.of (by rw [← nv_IntL]; exact ha), fun ns p pm st hp => ?_⟩
    refine ⟨_, rfl, (n : Int), rfl, RgOk.of_le (by omega) (by omega) (by omega) (by omega), fun q hq => ?_⟩
    rw [rgV_nv]
    refine ⟨p, q, ns, IntL (List.range n), rfl, rfl, SqL.of (same_upd hq _ _ upd_same), SqL.of (by rw [upd_same, nv_IntL]), ?_⟩
    rw [once_iff pm st]
    exact k _ ((same_upd hp).trans (same_upd hq))
end
/-! ### refusal_of_tables -/
def refusal (n : Nat) (l k : List Nat) : Int := if !isPerm n l || !isPerm n k then -22 else if !(⟨n, l, k⟩ : Glued).whole then -33 else 0
abbrev sRefusal : Stmt := top 57
theorem scRefusal : FnScope ["east", "north", "count"] ["east", "north", "count"] (defScope sRefusal) := ⟨rfl, rfl, rfl, by decide +kernel, rfl, by decide +kernel, by decide +kernel⟩
def spRefusal : Sp := fun vs H Q _ => ∃ (a b : Addr) (n : Nat) (l k : List Nat), vs = [.ref a, .ref b, .int (n : Int)] ∧ H a = some (.lst (nv l)) ∧ H b = some (.lst (nv k)) ∧ 0 < n ∧ n ≤ 6 ∧
  ∀ (H' : Hp), Same H H' → Q (.int (refusal n l k)) H'
section
variable {P : Program} {w : World} {K : PySem.W.Frag} {mg : Str → Option Value} {base : Heap} {C fS : Addr} {fdS : FuncData}
theorem ok_refusal {f f1 f2 : Addr} {fd fd1 fd2 : FuncData} (T : SurfC K mg C fS fdS) (Z : Nums mg) (D : DefAt K mg "refusal_of_tables" sRefusal ["east", "north", "count"] f fd) (D1 : DefAt K mg "tells_all_once" sOnceAll ["row", "count"] f1 fd1) (D2 : DefAt K mg "hangs_together" sHangs ["surface"] f2 fd2)
    (GS : FnOk P w K mg base CX0 2 fS fdS ["self", "east", "north"] (spSurf C)) (G1 : FnOk P w K mg base CX0 1 f1 fd1 ["row", "count"] spOnceAll) (G2 : FnOk P w K mg base CX0 2 f2 fd2 ["surface"] (spHangs C)) :
    FnOk P w K mg base CX0 4 f fd ["east", "north", "count"] spRefusal := by
  refine D.F.ok scRefusal (fun vs H Q E h => ?_) (fun cdv A outer s0 H vs Q E hr h => ?_)
  · obtain ⟨a, b, n, l, k, rfl, _⟩ := h
    rfl
  · obtain ⟨a, b, n, l, k, rfl, ha, hb, hp, hn, q⟩ := h
    have hr1 := hr.mono (by decide : 1 ≤ 3)
    have hr2 := hr.mono (by decide : 2 ≤ 3)
    refine ⟨_, pss_cons (ps_if (PW.pt (pw_or (pt_not (pt_val (pe_call G1 hr1 (by rfl) D1.g D1.F.kp D1.b .nil pass0 (pa_cons (pv 0) (pa_cons (pv 2) pa_nil))))) (pw_or1 (pt_not (pt_val (pe_call G1 hr1 (by rfl) D1.g D1.F.kp D1.b .nil pass0 (pa_cons (pv 1) (pa_cons (pv 2) pa_nil))))))))
        (pss_one (ps_ret (pe_cn Z.NOT_RIGHT (by rfl)))) pss_nil)
      (pss_cons (ps_if (pt_not (pt_val (pe_call G2 hr2 (by rfl) D2.g D2.F.kp D2.b .nil pass0 (pa_cons (pe_make T.M GS hr (by rfl) T.g T.b .nil pass0 (pa_cons (pv 0) (pa_cons (pv 1) pa_nil))) pa_nil))))
        (pss_one (ps_ret (pe_cn Z.NOT_TOGETHER (by rfl)))) pss_nil)
      (pss_one (ps_ret pe_int))), ?_⟩
    refine ⟨_, rfl, _, rfl, a, n, l, rfl, ha, hn, fun H1 s1 => ⟨_, rfl, ?_⟩⟩
    unfold refusal at q
    cases c1 : isPerm n l with
    | false =>
      rw [c1] at q
      exact br_t rfl (br_t rfl (q H1 s1))
    | true =>
      refine br_f rfl ?_
      refine ⟨_, rfl, _, rfl, b, n, k, rfl, s1 _ _ hb, hn, fun H2 s2 => ⟨_, rfl, ?_⟩⟩
      cases c2 : isPerm n k with
      | false =>
        rw [c1, c2] at q
        exact br_t rfl (q H2 (s1.trans s2))
      | true =>
        rw [c1, c2] at q
        refine br_f rfl ?_
        have p1 := isPerm_iff.mp c1
        have p2 := isPerm_iff.mp c2
        have s3 := s1.trans s2
        refine ⟨_, rfl, _, rfl, fun x dx nx ndx nex => ?_⟩
        have old : ∀ {y : Addr} {xs : List V}, H2 y = some (.lst xs) → upd (upd H2 dx (.own x)) x (.ins C dx []) y = some (.lst xs) := fun {y xs} h => by
          rw [upd_ne (ne_of_none h nx), upd_ne (ne_of_none h ndx)]; exact h
        refine ⟨x, dx, a, b, n, l, k, rfl, upd_same, old (s3 _ _ ha), old (s3 _ _ hb), p1, p2, hn, fun H3 J kp _ => ⟨rfl, ?_⟩⟩
        have s4 := s3.trans (Same.made nx ndx kp)
        refine ⟨x, ⟨n, l, k⟩, rfl, J, ⟨p1, p2⟩, hp, hn, fun H4 s5 => ⟨_, rfl, ?_⟩⟩
        cases c3 : (⟨n, l, k⟩ : Glued).whole with
        | false =>
          rw [c3] at q
          exact br_t rfl (q H4 (s4.trans s5))
        | true =>
          rw [c3] at q
          exact br_f rfl (q H4 (s4.trans s5))
end
end Sq
set_option Elab.async false
set_option linter.unusedVariables false
set_option maxRecDepth 100000
set_option maxHeartbeats 2000000
namespace Sq
open PySem PySem.Spec PyProof.Rows L2
open PySem.W (DatumOrd minOf maxOf)
open Krct (Glued to from_ inverse after order orderFrom renamed name isPerm)
/-! ### are_moves -/
theorem max_le2 : ∀ (xs : List Nat) (x : Nat), decide (maxOf (x : Int) (IntL xs) ≤ 2) = (x :: xs).all fun i => decide (i ≤ 2)
  | [], x => by
    show decide ((x : Int) ≤ 2) = (decide (x ≤ 2) && true)
    rw [Bool.and_true, decide_eq_decide]; omega
  | y :: xs, x => by
    have h : maxOf (x : Int) (IntL (y :: xs)) = maxOf ((if x < y then y else x : Nat) : Int) (IntL xs) := by
      show List.foldl _ (if decide ((x : Int) < (y : Int)) = true then (y : Int) else (x : Int)) (IntL xs) = List.foldl _ _ (IntL xs)
      by_cases c : x < y
      · rw [if_pos (decide_eq_true (by omega)), if_pos c]
      · rw [if_neg (by rw [decide_eq_true_iff]; omega), if_neg c]
    rw [h, max_le2 xs]
    simp only [List.all_cons]
    rw [← Bool.and_assoc]
    congr 1
    by_cases c : x < y
    · rw [if_pos c, Bool.eq_iff_iff]; simp; omega
    · rw [if_neg c, Bool.eq_iff_iff]; simp; omega
abbrev sAre : Stmt := top 58
theorem scAre : FnScope ["row"] ["row"] (defScope sAre) := ⟨rfl, rfl, rfl, by decide +kernel, rfl, by decide +kernel, by decide +kernel⟩
def spAre : Sp := fun vs H Q _ => ∃ (a : Addr) (l : List Nat), vs = [.ref a] ∧ H a = some (.lst (nv l)) ∧
  ∀ (H' : Hp), Same H H' → Q (.bl (Krcv.moveOk l)) H'
section
variable {P : Program} {w : World} {K : PySem.W.Frag} {mg : Str → Option Value} {base : Heap} {C fS : Addr} {fdS : FuncData}
theorem ok_are {f : Addr} {fd : FuncData} (B : Blt mg) (Z : Nums mg) (D : DefAt K mg "are_moves" sAre ["row"] f fd) : FnOk P w K mg base CX0 1 f fd ["row"] spAre := by
  refine D.F.ok scAre (fun vs H Q E h => ?_) (fun cdv A outer s0 H vs Q E hr h => ?_)
  · obtain ⟨a, l, rfl, _⟩ := h
    rfl
  · obtain ⟨a, l, rfl, ha, k⟩ := h
    refine ⟨_, pss_one (ps_ret (pe_and (pe_cmpR op_le (pe_callB call_len_seq (by rfl) B.len PySem.boot_len (pa_cons (pv 0) pa_nil)) (pe_cn Z.MOST_MOVES (by rfl)) (nomark _))
      (pe_one (pe_cmpR op_le (pe_callBK (cr_maxDef rfl (Nat.lt_of_le_of_lt (Nat.add_le_add_left (by decide) _) hr.units)) (by rfl) B.max (by decide +kernel) (pa_cons (pv 0) pa_nil) (pk_cons (pe_cn Z.SHEARED (by rfl)) pk_nil)) (pe_cn Z.TURNED (by rfl)) (nomark _))))), ?_⟩
    refine ⟨_, rfl, a, _, rfl, .inl (SqL.of ha), _, _, rfl, rfl, _, rfl, ?_⟩
    unfold Krcv.moveOk at k
    by_cases c : l.length ≤ 30
    · refine br_t (decide_eq_true (by rw [nv_len]; omega)) ?_
      refine ⟨_, rfl, a, IntL l, 0, rfl, rfl, SqL.of (by rw [← nv_IntL]; exact ha), fun e => ?_, fun n ns e => ?_⟩
      · have el : l = [] := by
          unfold IntL at e
          exact List.map_eq_nil_iff.mp e
        subst el
        exact ⟨_, _, rfl, rfl, k H (Same.refl _)⟩
      · cases l with
        | nil => cases e
        | cons x xs =>
          injection e with e1 e2
          subst e1
          have e3 : ns = IntL xs := e2.symm
          subst e3
          refine ⟨_, _, rfl, rfl, ?_⟩
          have := k H (Same.refl _)
          rw [decide_eq_true c, Bool.true_and, ← max_le2] at this
          exact this
    · refine br_f (decide_eq_false (by rw [nv_len]; omega)) ?_
      have := k H (Same.refl _)
      rw [decide_eq_false c, Bool.false_and] at this
      exact this
end
/-! ### the board -/
abbrev sBoard : Stmt := inClass (top 54) 0
theorem scBoard : FnScope ["self"] ["self"] (defScope sBoard) := ⟨rfl, rfl, rfl, by decide +kernel, rfl, by decide +kernel, by decide +kernel⟩
structure BoardC (K : PySem.W.Frag) (mg : Str → Option Value) (C f : Addr) (fd : FuncData) : Prop where
  cl : Cls K C
  nS : NoAttr K C "surface"
  g : mg "Board" = some (.ref C)
  M : Mk K C f
  F : Fun K "__init__" "Board.__init__" sBoard f fd
  b : Binds K fd ["self"] []
/-- the surface that a board has, if it has one -/
def SurfV (C : Addr) (H : Hp) : Option Glued → V → Prop
  | none, v => v = .non
  | some g, v => ∃ a, v = .ref a ∧ SurfAt C H a g
def BoardAt (CB C : Addr) (H : Hp) (b : Addr) (st : Option Glued) : Prop := ∃ dx v, H b = some (.ins CB dx [("surface", v)]) ∧ SurfV C H st v
def But (b : Addr) (H H' : Hp) : Prop := ∀ x o, H x = some o → x ≠ b → H' x = some o
theorem But.trans {b : Addr} {H H1 H2 : Hp} (h1 : But b H H1) (h2 : But b H1 H2) : But b H H2 := fun x o e n => h2 x o (h1 x o e n) n
theorem But.of {b : Addr} {H H' : Hp} (s : Same H H') : But b H H' := fun x o e _ => s x o e
theorem But.upd {b : Addr} {H : Hp} {o : HO} : But b H (upd H b o) := fun x u e n => by rw [upd_ne n]; exact e
theorem SurfAt.but {C : Addr} {b : Addr} {H H' : Hp} {a : Addr} {g : Glued} {CB dx : Addr} {v : V} (s : But b H H') (hb : H b = some (.ins CB dx [("surface", v)])) (h : SurfAt C H a g) : SurfAt C H' a g := by
  obtain ⟨dx', ae, an, aw, as, h1, h2, h3, h4, h5⟩ := h
  have nl : ∀ {x : Addr} {xs : List V}, H x = some (.lst xs) → x ≠ b := fun e z => by rw [z, hb] at e; cases e
  refine ⟨dx', ae, an, aw, as, s _ _ h1 (fun z => ?_), s _ _ h2 (nl h2), s _ _ h3 (nl h3), s _ _ h4 (nl h4), s _ _ h5 (nl h5)⟩
  rw [z, hb] at h1
  injection h1 with h1
  injection h1 with _ _ h1
  unfold sfF at h1
  injection h1 with h1 h1'
  cases h1'
theorem BoardAt.same {CB C : Addr} {H H' : Hp} {b : Addr} {st : Option Glued} (s : Same H H') (h : BoardAt CB C H b st) : BoardAt CB C H' b st := by
  obtain ⟨dx, v, h1, h2⟩ := h
  refine ⟨dx, v, s _ _ h1, ?_⟩
  cases st with
  | none => exact h2
  | some g =>
    obtain ⟨a, e, S⟩ := h2
    exact ⟨a, e, S.same s⟩
def spBoard (CB : Addr) : Sp := fun vs H Q _ => ∃ (p dx : Addr), vs = [.ref p] ∧ H p = some (.ins CB dx []) ∧
  ∀ H' : Hp, H' p = some (.ins CB dx [("surface", .non)]) → But p H H' → Q .non H'
section
variable {P : Program} {w : World} {K : PySem.W.Frag} {mg : Str → Option Value} {base : Heap} {C fS : Addr} {fdS : FuncData}
theorem ok_board {CB f : Addr} {fd : FuncData} (T : BoardC K mg CB f fd) : FnOk P w K mg base CX0 1 f fd ["self"] (spBoard CB) := by
  refine T.F.ok scBoard (fun vs H Q E h => ?_) (fun cdv A outer s0 H vs Q E hr h => ?_)
  · obtain ⟨p, dx, rfl, _⟩ := h
    rfl
  · obtain ⟨p, dx, rfl, hp, k⟩ := h
    refine ⟨_, pss_one (ps_fld (pv 0) pe_non rfl), ?_⟩
    refine ⟨_, rfl, p, CB, dx, _, rfl, hp, T.cl, T.nS, (by show 0 < 1000; decide), ?_⟩
    exact k _ upd_same But.upd
end
end Sq
set_option Elab.async false
set_option linter.unusedVariables false
set_option maxRecDepth 100000
set_option maxHeartbeats 2000000
namespace Sq
open PySem PySem.Spec PyProof.Rows L2
open Krct (Glued to from_ inverse after order orderFrom renamed name isPerm)
/-- whole numbers as values -/
def zv (l : List Int) : List V := l.map V.int
/-- a board's surface is one -/
def StOk (st : Option Glued) : Prop := ∀ g, st = some g → Ok g ∧ g.n ≤ 6
/-- what a call does: the board's surface becomes st', a new list tells ans -/
def BOff (C t : Addr) (H : Hp) (b : Addr) : Prop := ∀ CB dx a, H b = some (.ins CB dx [("surface", .ref a)]) → Off C t H a
theorem BOff.same {CB C t : Addr} {H H' : Hp} {b : Addr} {st : Option Glued} (hb : BoardAt CB C H b st) (s : Same H H') (h : BOff C t H b) : BOff C t H' b := fun CB' dx' a e => by
  obtain ⟨dx, v, e1, _⟩ := hb
  have e2 := (s _ _ e1).symm.trans e
  rw [Option.some.inj e2] at e1
  exact (h CB' dx' a e1).same s
/-- what a call does: the board's surface becomes st', a new list tells ans; no list of it lies where something else lay (but for what is handed in, at ex) -/
def Does (CB C : Addr) (H : Hp) (b : Addr) (ex : List Addr) (st' : Option Glued) (ans : List Int) (Q : VK) : Prop :=
  ∀ (H' : Hp) (p : Addr), But b H H' → BoardAt CB C H' b st' → H p = none → H' p = some (.lst (zv ans)) → (∀ t o, H t = some o → t ∉ ex → BOff C t H b → BOff C t H' b) → Q (.ref p) H'
/-! ### begin -/
theorem row_east : ∀ n, 0 < n → n ≤ 6 → (List.range n).drop 1 ++ [0] = (Krct.row n).east := by
  intro n h1 h2
  obtain rfl | rfl | rfl | rfl | rfl | rfl : n = 1 ∨ n = 2 ∨ n = 3 ∨ n = 4 ∨ n = 5 ∨ n = 6 := by omega
  all_goals decide
theorem row_ok : ∀ n, 0 < n → n ≤ 6 → Ok (Krct.row n) := by
  intro n h1 h2
  have e : isPerm n (Krct.row n).east = true ∧ isPerm n (Krct.row n).north = true ∧ (Krct.row n).whole = true := by
    obtain rfl | rfl | rfl | rfl | rfl | rfl : n = 1 ∨ n = 2 ∨ n = 3 ∨ n = 4 ∨ n = 5 ∨ n = 6 := by omega
    all_goals decide
  have g : Gl (Krct.row n) := ⟨isPerm_iff.mp e.1, isPerm_iff.mp e.2.1⟩
  exact ⟨g, h1, (whole_iff g h1).mp e.2.2⟩
theorem cut_tail (l : List Nat) : cutV (nv l) (some 1) none = nv (l.drop 1) := by
  unfold cutV nv
  cases l with
  | nil => rfl
  | cons a l =>
    simp [HT.sIx]
    exact List.take_of_length_le (by simp)
abbrev sBegin : Stmt := top 60
theorem scBegin : FnScope ["board", "count", "squares"] ["board", "count"] (defScope sBegin) := ⟨rfl, rfl, rfl, by decide +kernel, rfl, by decide +kernel, by decide +kernel⟩
def beginOf (st : Option Glued) (n : Nat) : Option Glued × List Int := if n = 0 || decide (6 < n) then (st, [-22]) else (some (Krct.row n), [0])
def spBegin (CB C : Addr) : Sp := fun vs H Q _ => ∃ (b : Addr) (n : Nat) (st : Option Glued), vs = [.ref b, .int (n : Int)] ∧ BoardAt CB C H b st ∧ Does CB C H b [] (beginOf st n).1 (beginOf st n).2 Q
section
variable {P : Program} {w : World} {K : PySem.W.Frag} {mg : Str → Option Value} {base : Heap} {C fS CB fB : Addr} {fdS fdB : FuncData}
theorem ok_begin {f : Addr} {fd : FuncData} (T : SurfC K mg C fS fdS) (TB : BoardC K mg CB fB fdB) (B : Blt mg) (Z : Nums mg) (D : DefAt K mg "begin" sBegin ["board", "count"] f fd)
    (GS : FnOk P w K mg base CX0 2 fS fdS ["self", "east", "north"] (spSurf C)) : FnOk P w K mg base CX0 4 f fd ["board", "count"] (spBegin CB C) := by
  refine D.F.ok scBegin (fun vs H Q E h => ?_) (fun cdv A outer s0 H vs Q E hr h => ?_)
  · obtain ⟨b, n, st, rfl, _⟩ := h
    rfl
  · obtain ⟨b, n, st, rfl, hb, k⟩ := h
    have nd := scBegin.nd
    refine ⟨_, pss_cons (ps_if (PW.pt (pw_or (pt_cmpR op_lt (pv 1) pe_int (nomark _)) (pw_or1 (pt_cmpR op_gt (pv 1) (pe_cn Z.MOST_SQUARES (by rfl)) (nomark _)))))
        (pss_one (ps_ret (pe_lst (pa_cons (pe_cn Z.NOT_RIGHT (by rfl)) pa_nil)))) pss_nil)
      (pss_cons (ps_set (i := 2) nd rfl (.inl rfl) (pe_listRg rfl (by rfl) B.list (prg_1 (by rfl) B.range (pv 1))))
      (pss_cons (ps_fld (pv 0) (pe_make T.M GS hr (by rfl) T.g T.b .nil pass0 (pa_cons (pe_op op_cat (pe_slice sl_list (pv 2) (po_some pe_int) po_none) (pe_lst (pa_cons pe_int pa_nil))) (pa_cons (pv 2) pa_nil))) rfl)
      (pss_one (ps_ret (pe_lst (pa_cons pe_int pa_nil)))))), ?_⟩
    have no : (n < 1 ∨ 6 < n) → ∀ p, H p = none → Q (.ref p) (upd H p (.lst [.int (-22)])) := fun hc p hp => by
      have e : beginOf st n = (st, [-22]) := by
        unfold beginOf
        rw [if_pos]
        simp only [Bool.or_eq_true, decide_eq_true_eq]; omega
      rw [e] at k
      exact k _ p (But.of (same_upd hp)) (hb.same (same_upd hp)) hp upd_same (fun t o _ _ h => h.same hb (same_upd hp))
    refine ⟨_, rfl, _, _, rfl, rfl, _, rfl, ?_⟩
    by_cases c1 : n < 1
    · refine br_t (decide_eq_true (by omega)) (br_t rfl ?_)
      exact ⟨le_size (by simp), no (.inl c1)⟩
    refine br_f (decide_eq_false (by omega)) ?_
    refine ⟨_, rfl, _, _, rfl, rfl, _, rfl, ?_⟩
    by_cases c2 : 6 < n
    · refine br_t (decide_eq_true (by omega)) ?_
      exact ⟨le_size (by simp), no (.inr c2)⟩
    refine br_f (decide_eq_false (by omega)) ?_
    refine ⟨_, rfl, (n : Int), rfl, RgOk.of_le (by omega) (by omega) (by omega) (by omega), fun q hq => ?_⟩
    rw [rgV_nv]
    have s1 : Same H (upd H q (.lst (nv (List.range n)))) := same_upd hq
    refine ⟨_, rfl, 1, rfl, q, _, rfl, SqL.of upd_same, fun r hr1 => ?_⟩
    rw [cut_tail]
    have s2 := s1.trans (same_upd (o := .lst (nv ((List.range n).drop 1))) hr1)
    refine ⟨le_size (by simp), fun t ht => ?_⟩
    have s3 := s2.trans (same_upd (o := .lst [.int 0]) ht)
    refine ⟨r, t, _, _, rfl, rfl, same_upd ht _ _ upd_same, upd_same, ?_, fun u hu => ?_⟩
    · rw [nv_len, List.length_drop, List.length_range]; exact le_size (by simp; omega)
    have ee : nv ((List.range n).drop 1) ++ [V.int 0] = nv (Krct.row n).east := by
      rw [← row_east n (by omega) (by omega), nv_append]; rfl
    rw [ee]
    generalize eH : upd (upd (upd (upd H q (.lst (nv (List.range n)))) r (.lst (nv ((List.range n).drop 1)))) t (.lst [.int 0])) u (.lst (nv (Krct.row n).east)) = H1
    have s4 : Same H H1 := by rw [← eH]; exact s3.trans (same_upd hu)
    have q4 : H1 q = some (.lst (nv (List.range n))) := by
      rw [← eH]
      exact same_upd hu _ _ (same_upd ht _ _ (same_upd hr1 _ _ upd_same))
    have u4 : H1 u = some (.lst (nv (Krct.row n).east)) := by rw [← eH]; exact upd_same
    refine ⟨_, rfl, fun x dx nx ndx nex => ?_⟩
    have old : ∀ {y : Addr} {u : HO}, H1 y = some u → upd (upd H1 dx (.own x)) x (.ins C dx []) y = some u := fun {y u} h => by
      rw [upd_ne (ne_of_none h nx), upd_ne (ne_of_none h ndx)]; exact h
    have ok := row_ok n (by omega) (by omega)
    refine ⟨x, dx, u, q, n, (Krct.row n).east, List.range n, rfl, upd_same, old u4, old q4, ok.e, Prm.range n, by omega, fun H2 J kp off => ⟨rfl, ?_⟩⟩
    have s5 : Same H H2 := s4.trans (Same.made nx ndx kp)
    obtain ⟨db, v, hb1, hb2⟩ := id hb
    have hb3 := s5 _ _ hb1
    refine ⟨_, rfl, b, CB, db, _, rfl, hb3, TB.cl, TB.nS, (by show 1 < 1000; decide), ?_⟩
    refine ⟨le_size (by simp), fun z hz => ?_⟩
    have e : beginOf st n = (some (Krct.row n), [0]) := by
      unfold beginOf
      rw [if_neg]
      simp only [Bool.or_eq_true, decide_eq_true_eq]; omega
    rw [e] at k
    have ep : putF "surface" (V.ref x) [(("surface" : Str), v)] = [(("surface" : Str), V.ref x)] := if_pos rfl
    have hz2 : H2 z = none := by
      by_cases c : z = b
      · rw [c, upd_same] at hz; cases hz
      · rw [upd_ne c] at hz; exact hz
    have k1 : But b H (upd (upd H2 b (.ins CB db (putF "surface" (V.ref x) [("surface", v)]))) z (.lst [.int 0])) := fun y o ey ny => by
      rw [upd_ne (ne_of_none (s5 _ _ ey) hz2), upd_ne ny]; exact s5 _ _ ey
    have k2 : But b H2 (upd (upd H2 b (.ins CB db (putF "surface" (V.ref x) [("surface", v)]))) z (.lst [.int 0])) := fun y o ey ny => by
      rw [upd_ne (ne_of_none ey hz2), upd_ne ny]; exact ey
    have hbn : upd (upd H2 b (.ins CB db (putF "surface" (V.ref x) [("surface", v)]))) z (.lst [.int 0]) b = some (.ins CB db [(("surface" : Str), V.ref x)]) := by
      rw [upd_ne (fun q => by rw [← q, hb3] at hz2; cases hz2), upd_same, ep]
    refine k _ z k1 ⟨db, .ref x, hbn, x, rfl, J.but k2 hb3⟩ (s5.free hz2) upd_same (fun tt o et _ _ => ?_)
    intro CB' dx' a' e'
    rw [hbn] at e'
    injection e' with e'
    injection e' with _ _ e'
    injection e' with e' _
    injection e' with _ e'
    injection e' with e'
    subst e'
    have nu : H u = none := s3.free hu
    obtain ⟨dx2, ae2, an2, aw2, as2, w1, w2⟩ := off tt o (old (s4 _ _ et)) (fun q => by rw [q, nu] at et; cases et) (fun q => by rw [q, hq] at et; cases et)
    refine ⟨dx2, ae2, an2, aw2, as2, k2 _ _ w1 (fun q => ?_), w2⟩
    rw [q, hb3] at w1
    injection w1 with w1
    injection w1 with _ _ w1
    unfold sfF at w1
    injection w1 with _ w1
    cases w1
end
end Sq
set_option Elab.async false
set_option linter.unusedVariables false
set_option maxRecDepth 100000
set_option maxHeartbeats 2000000
namespace Sq
open PySem PySem.Spec PyProof.Rows L2
open Krct (Glued to from_ inverse after order orderFrom renamed name isPerm)
def bF (v : V) : List (Str × V) := [("surface", v)]
theorem bF_put (v x : V) : putF "surface" x (bF v) = bF x := if_pos rfl
theorem bF_look (v : V) : (bF v).lookup ("surface" : Str) = some v := look_hit
/-! ### counted -/
abbrev sCounted : Stmt := top 59
theorem scCounted : FnScope ["numbers"] ["numbers"] (defScope sCounted) := ⟨rfl, rfl, rfl, by decide +kernel, rfl, by decide +kernel, by decide +kernel⟩
def spCounted : Sp := fun vs H Q _ => ∃ (a : Addr) (l : List Nat), vs = [.ref a] ∧ H a = some (.lst (nv l)) ∧ l.length ≤ 500 ∧
  ∀ (H' : Hp) (p : Addr), Same H H' → H p = none → H' p = some (.lst (nv (l.length :: l))) → Q (.ref p) H'
/-! ### glue -/
abbrev sGlue : Stmt := top 61
theorem scGlue : FnScope ["board", "east", "north", "refusal"] ["board", "east", "north"] (defScope sGlue) := ⟨rfl, rfl, rfl, by decide +kernel, rfl, by decide +kernel, by decide +kernel⟩
def glueOf (g : Glued) (l k : List Nat) : Option Glued × List Int := if refusal g.n l k = 0 then (some ⟨g.n, l, k⟩, [((⟨g.n, l, k⟩ : Glued).corners.length : Int)]) else (some g, [refusal g.n l k])
theorem refusal_zero {n : Nat} {l k : List Nat} (hp : 0 < n) (h : refusal n l k = 0) : Ok ⟨n, l, k⟩ := by
  unfold refusal at h
  by_cases c1 : (!isPerm n l || !isPerm n k) = true
  · rw [if_pos c1] at h; cases h
  · rw [if_neg c1] at h
    by_cases c2 : (!(⟨n, l, k⟩ : Glued).whole) = true
    · rw [if_pos c2] at h; cases h
    · have p1 : isPerm n l = true ∧ isPerm n k = true := by simpa using c1
      have p2 : (⟨n, l, k⟩ : Glued).whole = true := by simpa using c2
      have g : Gl ⟨n, l, k⟩ := ⟨isPerm_iff.mp p1.1, isPerm_iff.mp p1.2⟩
      exact ⟨g, hp, (whole_iff g hp).mp p2⟩
def spGlue (CB C : Addr) : Sp := fun vs H Q _ => ∃ (b x y : Addr) (g : Glued) (l k : List Nat), vs = [.ref b, .ref x, .ref y] ∧ BoardAt CB C H b (some g) ∧ Ok g ∧ g.n ≤ 6 ∧ H x = some (.lst (nv l)) ∧ H y = some (.lst (nv k)) ∧
  Does CB C H b [x, y] (glueOf g l k).1 (glueOf g l k).2 Q
/-! ### do_moves -/
abbrev sDo : Stmt := top 62
theorem scDo : FnScope ["board", "moves"] ["board", "moves"] (defScope sDo) := ⟨rfl, rfl, rfl, by decide +kernel, rfl, by decide +kernel, by decide +kernel⟩
def doOf (g : Glued) (l : List Nat) : Option Glued × List Int := if Krcv.moveOk l then (some (Krcv.apply g l), [(l.length : Int)]) else (some g, [-22])
theorem moveOk_lt {l : List Nat} (h : Krcv.moveOk l = true) : ∀ m ∈ l, m < 3 := fun m hm => by
  unfold Krcv.moveOk at h
  rw [Bool.and_eq_true, List.all_eq_true] at h
  have := of_decide_eq_true (h.2 m hm)
  omega
def spDo (CB C : Addr) : Sp := fun vs H Q _ => ∃ (b x : Addr) (g : Glued) (l : List Nat), vs = [.ref b, .ref x] ∧ BoardAt CB C H b (some g) ∧ Ok g ∧ g.n ≤ 6 ∧ H x = some (.lst (nv l)) ∧
  Does CB C H b [] (doOf g l).1 (doOf g l).2 Q
/-- a list of one number is answered, nothing is changed -/
theorem does_say {CB C : Addr} {H H1 : Hp} {b p : Addr} {ex : List Addr} {st : Option Glued} {z : Int} {Q : VK} (hb : BoardAt CB C H b st) (k : Does CB C H b ex st [z] Q) (s : Same H H1) (hp : H1 p = none) : Q (.ref p) (upd H1 p (.lst [.int z])) :=
  k _ p (But.of (s.trans (same_upd hp))) (hb.same (s.trans (same_upd hp))) (s.free hp) upd_same (fun _ _ _ _ h => h.same hb (s.trans (same_upd hp)))
theorem boff_of {C t CB db z b : Addr} {H : Hp} (hb : H b = some (.ins CB db (bF (.ref z)))) (h : Off C t H z) : BOff C t H b := fun CB' dx' a e => by
  rw [hb] at e
  unfold bF at e
  injection e with e
  injection e with _ _ e
  injection e with e _
  injection e with _ e
  injection e with e
  subst e
  exact h
theorem Off.but {C t b a CB db : Addr} {v : V} {H H' : Hp} (s : But b H H') (hb : H b = some (.ins CB db (bF v))) (h : Off C t H a) : Off C t H' a := by
  obtain ⟨dx2, ae2, an2, aw2, as2, w1, w2⟩ := h
  refine ⟨dx2, ae2, an2, aw2, as2, s _ _ w1 (fun q => ?_), w2⟩
  rw [q, hb] at w1
  injection w1 with w1
  injection w1 with _ _ w1
  unfold sfF bF at w1
  injection w1 with _ w1
  cases w1
theorem boff_inv {C t CB db z b : Addr} {H : Hp} (hb : H b = some (.ins CB db (bF (.ref z)))) (h : BOff C t H b) : Off C t H z := h CB db z hb
/-- the board is given another surface, which stands at x -/
theorem board_set {CB C : Addr} {H1 : Hp} {b db x : Addr} {v : V} {g : Glued} (hb : H1 b = some (.ins CB db (bF v))) (S : SurfAt C H1 x g) :
    BoardAt CB C (upd H1 b (.ins CB db (bF (.ref x)))) b (some g) := by
  refine ⟨db, .ref x, upd_same, x, rfl, S.but (But.upd) hb⟩
section
variable {P : Program} {w : World} {K : PySem.W.Frag} {mg : Str → Option Value} {base : Heap} {C fS CB fB : Addr} {fdS fdB : FuncData}
theorem ok_counted {f : Addr} {fd : FuncData} (B : Blt mg) (D : DefAt K mg "counted" sCounted ["numbers"] f fd) : FnOk P w K mg base CX0 1 f fd ["numbers"] spCounted := by
  refine D.F.ok scCounted (fun vs H Q E h => ?_) (fun cdv A outer s0 H vs Q E hr h => ?_)
  · obtain ⟨a, l, rfl, _⟩ := h
    rfl
  · obtain ⟨a, l, rfl, ha, hl, k⟩ := h
    refine ⟨_, pss_one (ps_ret (pe_op op_cat (pe_lst (pa_cons (pe_callB call_len_seq (by rfl) B.len PySem.boot_len (pa_cons (pv 0) pa_nil)) pa_nil)) (pv 0))), ?_⟩
    refine ⟨_, rfl, a, _, rfl, .inl (SqL.of ha), le_size (by simp), fun q hq => ?_⟩
    refine ⟨_, rfl, q, a, _, _, rfl, rfl, upd_same, same_upd hq _ _ ha, ?_, fun p hp => ?_⟩
    · rw [nv_len]; exact le_size (by simp; omega)
    · refine k _ p ((same_upd hq).trans (same_upd hp)) ((same_upd hq).free hp) ?_
      rw [upd_same, nv_len]; rfl
theorem ok_glue {f f1 f2 : Addr} {fd fd1 fd2 : FuncData} (T : SurfC K mg C fS fdS) (TB : BoardC K mg CB fB fdB) (B : Blt mg) (D : DefAt K mg "glue" sGlue ["board", "east", "north"] f fd)
    (D1 : DefAt K mg "refusal_of_tables" sRefusal ["east", "north", "count"] f1 fd1) (D2 : DefAt K mg "corner_lengths" sCorn ["surface"] f2 fd2)
    (GS : FnOk P w K mg base CX0 2 fS fdS ["self", "east", "north"] (spSurf C)) (G1 : FnOk P w K mg base CX0 4 f1 fd1 ["east", "north", "count"] spRefusal) (G2 : FnOk P w K mg base CX0 3 f2 fd2 ["surface"] (spCorn C)) :
    FnOk P w K mg base CX0 5 f fd ["board", "east", "north"] (spGlue CB C) := by
  refine D.F.ok scGlue (fun vs H Q E h => ?_) (fun cdv A outer s0 H vs Q E hr h => ?_)
  · obtain ⟨b, x, y, g, l, k, rfl, _⟩ := h
    rfl
  · obtain ⟨b, x, y, g, l, k, rfl, hb, hg, hn, hx, hy, q⟩ := h
    have nd := scGlue.nd
    have hr3 := hr.mono (by decide : 3 ≤ 4)
    refine ⟨_, pss_cons (ps_set (i := 3) nd rfl (.inl rfl) (pe_call G1 hr (by rfl) D1.g D1.F.kp D1.b .nil pass0 (pa_cons (pv 1) (pa_cons (pv 2) (pa_cons (pe_callB call_len_seq (by rfl) B.len PySem.boot_len (pa_cons (pe_fld (pe_fld (pv 0) rfl) rfl) pa_nil)) pa_nil)))))
      (pss_cons (ps_if (pt_cmpR op_ne (pv 3) pe_int (nomark _)) (pss_one (ps_ret (pe_lst (pa_cons (pv 3) pa_nil)))) pss_nil)
      (pss_cons (ps_fld (pv 0) (pe_make T.M GS hr3 (by rfl) T.g T.b .nil pass0 (pa_cons (pv 1) (pa_cons (pv 2) pa_nil))) rfl)
      (pss_one (ps_ret (pe_lst (pa_cons (pe_callB call_len_seq (by rfl) B.len PySem.boot_len (pa_cons (pe_call G2 hr3 (by rfl) D2.g D2.F.kp D2.b .nil pass0 (pa_cons (pe_fld (pv 0) rfl) pa_nil)) pa_nil)) pa_nil)))))), ?_⟩
    obtain ⟨db, v, hb1, a, rfl, S⟩ := id hb
    obtain ⟨dx, ae, an, aw, as, q1, q2, q3, q4, q5⟩ := id S
    refine ⟨_, rfl, _, rfl, _, rfl, b, CB, db, bF (.ref a), _, rfl, hb1, TB.cl, TB.nS, bF_look _, a, C, dx, _, _, rfl, q1, T.cl, T.nE, sf_e _ _ _ _, ae, _, rfl, .inl (SqL.of q2), x, y, g.n, l, k, (by rw [nv_len, hg.e.len]; rfl), hx, hy, hg.pos, hn, fun H1 s1 => ?_⟩
    refine ⟨_, rfl, rfl, _, rfl, ?_⟩
    unfold glueOf at q
    by_cases c : refusal g.n l k = 0
    · refine br_f (by rw [c]; rfl) ?_
      rw [if_pos c] at q
      have ok := refusal_zero hg.pos c
      refine ⟨_, rfl, _, rfl, fun z dz nz ndz nez => ?_⟩
      have old : ∀ {y : Addr} {u : HO}, H1 y = some u → upd (upd H1 dz (.own z)) z (.ins C dz []) y = some u := fun {y u} h => by
        rw [upd_ne (ne_of_none h nz), upd_ne (ne_of_none h ndz)]; exact h
      refine ⟨z, dz, x, y, g.n, l, k, rfl, upd_same, old (s1 _ _ hx), old (s1 _ _ hy), ok.e, ok.n, hn, fun H2 J kp off => ⟨rfl, ?_⟩⟩
      have s2 : Same H H2 := s1.trans (Same.made nz ndz kp)
      have hb2 : H2 b = some (.ins CB db (bF (.ref a))) := s2 _ _ hb1
      refine ⟨_, rfl, b, CB, db, _, rfl, hb2, TB.cl, TB.nS, (by show 1 < 1000; decide), ?_⟩
      rw [bF_put]
      have hb3 := board_set hb2 J
      generalize eH : upd H2 b (.ins CB db (bF (.ref z))) = H3 at hb3 ⊢
      have k3 : But b H2 H3 := by rw [← eH]; exact But.upd
      have e3 : H3 b = some (.ins CB db (bF (.ref z))) := by rw [← eH]; exact upd_same
      have J3 := J.but k3 hb2
      refine ⟨_, rfl, b, CB, db, _, _, rfl, e3, TB.cl, TB.nS, bF_look _, z, _, rfl, J3, ok.toGl, hn, fun H4 r s4 nr hr4 => ?_⟩
      refine ⟨r, _, rfl, .inl (SqL.of hr4), le_size (by simp), fun p hp => ?_⟩
      have s5 : Same H3 (upd H4 p (.lst [.int ((nv ((⟨g.n, l, k⟩ : Glued).corners.map List.length)).length : Int)])) := s4.trans (same_upd hp)
      have np : H p = none := by
        have h3 : H3 p = none := s4.free hp
        cases e : H p with
        | none => rfl
        | some o =>
          exfalso
          by_cases c9 : p = b
          · rw [c9, e3] at h3; cases h3
          · have := k3 _ _ (s2 _ _ e) c9
            rw [h3] at this; cases this
      refine q _ p ((But.of s2).trans (k3.trans (But.of s5))) (hb3.same s5) np ?_ (fun t o et nt _ => ?_)
      · rw [upd_same, nv_len, List.length_map]; rfl
      · have o2 := off t o (old (s1 _ _ et)) (fun e => nt (by simp [e])) (fun e => nt (by simp [e]))
        exact BOff.same hb3 s5 (boff_of e3 (o2.but k3 hb2))
    · refine br_t (by
        have : decide (V.int (refusal g.n l k) = V.int 0) = false := decide_eq_false (fun e => by injection e with e; exact c e)
        rw [this]; rfl) ?_
      rw [if_neg c] at q
      exact ⟨_, rfl, le_size (by simp), fun p hp => does_say hb q s1 hp⟩
theorem ok_do {f f1 f2 : Addr} {fd fd1 fd2 : FuncData} (TB : BoardC K mg CB fB fdB) (B : Blt mg) (Z : Nums mg) (D : DefAt K mg "do_moves" sDo ["board", "moves"] f fd)
    (D1 : DefAt K mg "are_moves" sAre ["row"] f1 fd1) (D2 : DefAt K mg "all_moved" sAllMoved ["moves", "surface"] f2 fd2)
    (G1 : FnOk P w K mg base CX0 1 f1 fd1 ["row"] spAre) (G2 : FnOk P w K mg base CX0 5 f2 fd2 ["moves", "surface"] (spAllMoved C)) :
    FnOk P w K mg base CX0 6 f fd ["board", "moves"] (spDo CB C) := by
  refine D.F.ok scDo (fun vs H Q E h => ?_) (fun cdv A outer s0 H vs Q E hr h => ?_)
  · obtain ⟨b, x, g, l, rfl, _⟩ := h
    rfl
  · obtain ⟨b, x, g, l, rfl, hb, hg, hn, hx, q⟩ := h
    refine ⟨_, pss_cons (ps_if (pt_not (pt_val (pe_call G1 (hr.mono (by decide)) (by rfl) D1.g D1.F.kp D1.b .nil pass0 (pa_cons (pv 1) pa_nil)))) (pss_one (ps_ret (pe_lst (pa_cons (pe_cn Z.NOT_RIGHT (by rfl)) pa_nil)))) pss_nil)
      (pss_cons (ps_fld (pv 0) (pe_call G2 hr (by rfl) D2.g D2.F.kp D2.b .nil pass0 (pa_cons (pv 1) (pa_cons (pe_fld (pv 0) rfl) pa_nil))) rfl)
      (pss_one (ps_ret (pe_lst (pa_cons (pe_callB call_len_seq (by rfl) B.len PySem.boot_len (pa_cons (pv 1) pa_nil)) pa_nil))))), ?_⟩
    obtain ⟨db, v, hb1, a, rfl, S⟩ := id hb
    refine ⟨_, rfl, x, l, rfl, hx, fun H1 s1 => ⟨_, rfl, ?_⟩⟩
    unfold doOf at q
    cases c : Krcv.moveOk l with
    | false =>
      rw [c] at q
      exact br_t rfl ⟨le_size (by simp), fun p hp => does_say hb q s1 hp⟩
    | true =>
      rw [c] at q
      refine br_f rfl ?_
      refine ⟨_, rfl, _, rfl, b, CB, db, bF (.ref a), _, rfl, s1 _ _ hb1, TB.cl, TB.nS, bF_look _, x, a, l, g, rfl, s1 _ _ hx, moveOk_lt c, S.same s1, hg, hn, fun H2 z s2 J off => ?_⟩
      have s3 := s1.trans s2
      have hb2 : H2 b = some (.ins CB db (bF (.ref a))) := s3 _ _ hb1
      refine ⟨_, rfl, b, CB, db, _, rfl, hb2, TB.cl, TB.nS, (by show 1 < 1000; decide), ?_⟩
      rw [bF_put]
      have hb3 := board_set hb2 J
      generalize eH : upd H2 b (.ins CB db (bF (.ref z))) = H3 at hb3 ⊢
      have k3 : But b H2 H3 := by rw [← eH]; exact But.upd
      have e3 : H3 b = some (.ins CB db (bF (.ref z))) := by rw [← eH]; exact upd_same
      have hx3 : H3 x = some (.lst (nv l)) := k3 _ _ (s3 _ _ hx) (fun e => by rw [e, hb1] at hx; cases hx)
      refine ⟨_, rfl, x, _, rfl, .inl (SqL.of hx3), le_size (by simp), fun p hp => ?_⟩
      have s5 : Same H3 (upd H3 p (.lst [.int ((nv l).length : Int)])) := same_upd hp
      have np : H p = none := by
        cases e : H p with
        | none => rfl
        | some o =>
          exfalso
          by_cases c9 : p = b
          · rw [c9, e3] at hp; cases hp
          · have := k3 _ _ (s3 _ _ e) c9
            rw [hp] at this; cases this
      refine q _ p ((But.of s3).trans (k3.trans (But.of s5))) (hb3.same s5) np ?_ (fun t o et _ bo => ?_)
      · rw [upd_same, nv_len]; rfl
      · have o2 := off t o (s1 _ _ et) ((boff_inv hb1 bo).same s1)
        exact BOff.same hb3 s5 (boff_of e3 (o2.but k3 hb2))
end
end Sq
set_option Elab.async false
set_option linter.unusedVariables false
set_option maxRecDepth 100000
set_option maxHeartbeats 2000000
namespace Sq
open PySem PySem.Spec PyProof.Rows L2
/-! ### the reader -/
abbrev sRdInit : Stmt := inClass (top 55) 0
abbrev sRdEnded : Stmt := inClass (top 55) 1
abbrev sRdNum : Stmt := inClass (top 55) 2
abbrev sRdRow : Stmt := inClass (top 55) 3
theorem scRdInit : FnScope ["self", "numbers"] ["self", "numbers"] (defScope sRdInit) := ⟨rfl, rfl, rfl, by decide +kernel, rfl, by decide +kernel, by decide +kernel⟩
theorem scRdEnded : FnScope ["self"] ["self"] (defScope sRdEnded) := ⟨rfl, rfl, rfl, by decide +kernel, rfl, by decide +kernel, by decide +kernel⟩
theorem scRdNum : FnScope ["self", "number"] ["self"] (defScope sRdNum) := ⟨rfl, rfl, rfl, by decide +kernel, rfl, by decide +kernel, by decide +kernel⟩
theorem scRdRow : FnScope ["self", "length", "row"] ["self"] (defScope sRdRow) := ⟨rfl, rfl, rfl, by decide +kernel, rfl, by decide +kernel, by decide +kernel⟩
def rF (a : Addr) (k : Nat) : List (Str × V) := [("numbers", .ref a), ("place", .int (k : Int))]
theorem rF_num (a : Addr) (k : Nat) : (rF a k).lookup ("numbers" : Str) = some (.ref a) := look_hit
theorem rF_place (a : Addr) (k : Nat) : (rF a k).lookup ("place" : Str) = some (.int (k : Int)) := (look_go (by decide +kernel)).trans look_hit
theorem rF_no (a : Addr) (k : Nat) {m : Str} (h1 : (m == ("numbers" : Str)) = false) (h2 : (m == ("place" : Str)) = false) : (rF a k).lookup m = none := (look_go h1).trans ((look_go h2).trans rfl)
theorem put_hit {f : Str} {v x : V} {r : List (Str × V)} : putF f v ((f, x) :: r) = (f, v) :: r := if_pos rfl
theorem rF_put (a : Addr) (k : Nat) (z : Int) (j : Nat) (e : z = (j : Int)) : putF "place" (.int z) (rF a k) = rF a j := by
  subst e
  exact (put_go (by decide +kernel)).trans (congrArg _ put_hit)
theorem rF_new (a : Addr) : putF "place" (.int 0) (putF "numbers" (.ref a) []) = rF a 0 := (put_go (by decide +kernel)).trans rfl
def ReaderAt (CR : Addr) (H : Hp) (r a : Addr) (k : Nat) : Prop := ∃ dx, H r = some (.ins CR dx (rF a k))
structure ReaderC (K : PySem.W.Frag) (mg : Str → Option Value) (C f0 f1 f2 f3 : Addr) (fd0 fd1 fd2 fd3 : FuncData) : Prop where
  cl : Cls K C
  nN : NoAttr K C "numbers"
  nP : NoAttr K C "place"
  g : mg "Reader" = some (.ref C)
  M : Mk K C f0
  F0 : Fun K "__init__" "Reader.__init__" sRdInit f0 fd0
  b0 : Binds K fd0 ["self", "numbers"] []
  F1 : Fun K "ended" "Reader.ended" sRdEnded f1 fd1
  b1 : Binds K fd1 ["self"] []
  m1 : Meth K C "ended" f1
  F2 : Fun K "read_number" "Reader.read_number" sRdNum f2 fd2
  b2 : Binds K fd2 ["self"] []
  m2 : Meth K C "read_number" f2
  F3 : Fun K "read_row" "Reader.read_row" sRdRow f3 fd3
  b3 : Binds K fd3 ["self"] []
  m3 : Meth K C "read_row" f3
/-- what is handed in stands still while something else is changed -/
theorem seq_but {K : PySem.W.Frag} {H H' : Hp} {a r CR dx : Addr} {fs : List (Str × V)} {xs : List V} (e : But r H H') (hr : H r = some (.ins CR dx fs)) (h : SqL K H a xs) : SqL K H' a xs := by
  rcases h with (h | ⟨o, h⟩) | h
  · exact .inl (.inl (e _ _ h (fun z => by rw [z, hr] at h; cases h)))
  · exact .inl (.inr ⟨o, e _ _ h (fun z => by rw [z, hr] at h; cases h)⟩)
  · exact .inr h
def spRdInit (CR : Addr) : Sp := fun vs H Q _ => ∃ (p dx a : Addr), vs = [.ref p, .ref a] ∧ H p = some (.ins CR dx []) ∧
  ∀ H' : Hp, ReaderAt CR H' p a 0 → But p H H' → Q .non H'
def spRdEnded (K : PySem.W.Frag) (CR : Addr) : Sp := fun vs H Q _ => ∃ (r a : Addr) (k : Nat) (cs : List Nat), vs = [.ref r] ∧ ReaderAt CR H r a k ∧ SqL K H a (nv cs) ∧
  ∀ H' : Hp, Same H H' → Q (.bl (decide (cs.length ≤ k))) H'
def spRdNum (K : PySem.W.Frag) (CR : Addr) : Sp := fun vs H Q _ => ∃ (r a : Addr) (k x : Nat) (cs : List Nat), vs = [.ref r] ∧ ReaderAt CR H r a k ∧ SqL K H a (nv cs) ∧ cs[k]? = some x ∧
  ∀ H' : Hp, But r H H' → ReaderAt CR H' r a (k + 1) → Q (.int (x : Int)) H'
def spRdRow (K : PySem.W.Frag) (CR : Addr) : Sp := fun vs H Q _ => ∃ (r a : Addr) (k m : Nat) (cs : List Nat), vs = [.ref r] ∧ ReaderAt CR H r a k ∧ SqL K H a (nv cs) ∧ cs[k]? = some m ∧ k + 1 + m ≤ cs.length ∧
  ∀ (H' : Hp) (p : Addr), But r H H' → ReaderAt CR H' r a (k + 1 + m) → H p = none → H' p = some (.lst (nv ((cs.drop (k + 1)).take m))) → Q (.ref p) H'
theorem cut_mid (l : List Nat) (i j : Nat) (h : i + j ≤ l.length) : cutV (nv l) (some (i : Int)) (some ((i : Int) + (j : Int))) = nv ((l.drop i).take j) := by
  unfold cutV
  have e1 : HT.sIx (nv l).length 0 (some (i : Int)) = i := by rw [HT.sIx_nat, nv_len]; omega
  have e2 : HT.sIx (nv l).length (nv l).length (some ((i : Int) + (j : Int))) = i + j := by
    rw [← Int.natCast_add, HT.sIx_nat, nv_len]; omega
  rw [e1, e2, Nat.add_sub_cancel_left]
  unfold nv
  rw [List.map_take, List.map_drop]
section
variable {P : Program} {w : World} {K : PySem.W.Frag} {mg : Str → Option Value} {base : Heap} {CR f0 f1 f2 f3 : Addr} {fd0 fd1 fd2 fd3 : FuncData}
theorem ok_rdInit (T : ReaderC K mg CR f0 f1 f2 f3 fd0 fd1 fd2 fd3) : FnOk P w K mg base CX0 1 f0 fd0 ["self", "numbers"] (spRdInit CR) := by
  refine T.F0.ok scRdInit (fun vs H Q E h => ?_) (fun cdv A outer s0 H vs Q E hr h => ?_)
  · obtain ⟨p, dx, a, rfl, _⟩ := h
    rfl
  · obtain ⟨p, dx, a, rfl, hp, k⟩ := h
    refine ⟨_, pss_cons (ps_fld (pv 0) (pv 1) rfl) (pss_one (ps_fld (pv 0) pe_int rfl)), ?_⟩
    refine ⟨_, rfl, _, rfl, p, CR, dx, _, rfl, hp, T.cl, T.nN, (by show 0 < 1000; decide), ?_⟩
    refine ⟨_, rfl, p, CR, dx, _, rfl, upd_same, T.cl, T.nP, (by show 1 < 1000; decide), ?_⟩
    rw [rF_new]
    exact k _ ⟨dx, upd_same⟩ (But.upd.trans But.upd)
theorem ok_rdEnded (T : ReaderC K mg CR f0 f1 f2 f3 fd0 fd1 fd2 fd3) (B : Blt mg) : FnOk P w K mg base CX0 1 f1 fd1 ["self"] (spRdEnded K CR) := by
  refine T.F1.ok scRdEnded (fun vs H Q E h => ?_) (fun cdv A outer s0 H vs Q E hr h => ?_)
  · obtain ⟨r, a, k, cs, rfl, _⟩ := h
    rfl
  · obtain ⟨r, a, k, cs, rfl, ⟨dx, hR⟩, hS, q⟩ := h
    refine ⟨_, pss_one (ps_ret (pe_cmpR op_ge (pe_fld (pv 0) rfl) (pe_callB call_len_seq (by rfl) B.len PySem.boot_len (pa_cons (pe_fld (pv 0) rfl) pa_nil)) (nomark _))), ?_⟩
    refine ⟨_, rfl, r, CR, dx, _, _, rfl, hR, T.cl, T.nP, rF_place _ _, _, rfl, r, CR, dx, _, _, rfl, hR, T.cl, T.nN, rF_num _ _, a, _, rfl, .inl hS, _, _, rfl, rfl, ?_⟩
    have := q H (Same.refl _)
    have e : decide (((nv cs).length : Int) ≤ (k : Int)) = decide (cs.length ≤ k) := by
      rw [decide_eq_decide, nv_len]; omega
    rw [← e] at this
    exact this
theorem ok_rdNum (T : ReaderC K mg CR f0 f1 f2 f3 fd0 fd1 fd2 fd3) : FnOk P w K mg base CX0 1 f2 fd2 ["self"] (spRdNum K CR) := by
  refine T.F2.ok scRdNum (fun vs H Q E h => ?_) (fun cdv A outer s0 H vs Q E hr h => ?_)
  · obtain ⟨r, a, k, x, cs, rfl, _⟩ := h
    rfl
  · obtain ⟨r, a, k, x, cs, rfl, ⟨dx, hR⟩, hS, hx, q⟩ := h
    have nd := scRdNum.nd
    refine ⟨_, pss_cons (ps_set (i := 1) nd rfl (.inl rfl) (pe_ix ix_list (pe_fld (pv 0) rfl) (pe_fld (pv 0) rfl) (fun _ _ => rfl)))
      (pss_cons (ps_fldaug (pv 0) pe_int in_add) (pss_one (ps_ret (pv 1)))), ?_⟩
    refine ⟨_, rfl, r, CR, dx, _, _, rfl, hR, T.cl, T.nN, rF_num _ _, _, rfl, r, CR, dx, _, _, rfl, hR, T.cl, T.nP, rF_place _ _, a, _, _, _, rfl, rfl, hS, atI_nat (nv_get hx), ?_⟩
    refine ⟨_, rfl, r, CR, dx, _, _, rfl, hR, T.cl, T.nP, rF_place _ _, _, _, rfl, rfl, dx, _, hR, (by show 2 < 1000; decide), ?_⟩
    refine ⟨_, rfl, ?_⟩
    refine q _ But.upd ⟨dx, ?_⟩
    rw [upd_same]
    exact congrArg (fun z => some (HO.ins CR dx z)) (rF_put a k _ (k + 1) (by omega))
theorem ok_rdRow (T : ReaderC K mg CR f0 f1 f2 f3 fd0 fd1 fd2 fd3) : FnOk P w K mg base CX0 2 f3 fd3 ["self"] (spRdRow K CR) := by
  have G2 : FnOk P w K mg base CX0 1 f2 fd2 ["self"] (spRdNum K CR) := ok_rdNum T
  refine T.F3.ok scRdRow (fun vs H Q E h => ?_) (fun cdv A outer s0 H vs Q E hr h => ?_)
  · obtain ⟨r, a, k, m, cs, rfl, _⟩ := h
    rfl
  · obtain ⟨r, a, k, m, cs, rfl, hR, hS, hm, hle, q⟩ := h
    have nd := scRdRow.nd
    refine ⟨_, pss_cons (ps_set (i := 1) nd rfl (.inl rfl) (pe_meth0 (pv 0) T.cl T.m2 G2 hr T.b2 .nil pass0))
      (pss_cons (ps_set (i := 2) nd rfl (.inl rfl) (pe_slice sl_list (pe_fld (pv 0) rfl) (po_some (pe_fld (pv 0) rfl)) (po_some (pe_op op_add (pe_fld (pv 0) rfl) (pv 1)))))
      (pss_cons (ps_fldaug (pv 0) (pv 1) in_add) (pss_one (ps_ret (pv 2))))), ?_⟩
    obtain ⟨dx0, hR0⟩ := id hR
    refine ⟨_, rfl, r, dx0, _, rfl, hR0, rF_no _ _ (by decide +kernel) (by decide +kernel), r, a, k, m, cs, rfl, hR, hS, hm, fun H1 k1 R1 => ?_⟩
    obtain ⟨dx, hR1⟩ := R1
    have hS1 := seq_but k1 hR0 hS
    refine ⟨_, rfl, r, CR, dx, _, _, rfl, hR1, T.cl, T.nN, rF_num _ _, ?_⟩
    refine ⟨_, rfl, r, CR, dx, _, _, rfl, hR1, T.cl, T.nP, rF_place _ _, _, rfl, ?_⟩
    refine ⟨_, rfl, r, CR, dx, _, _, rfl, hR1, T.cl, T.nP, rF_place _ _, _, rfl, _, _, rfl, rfl, _, rfl, ?_⟩
    refine ⟨a, _, rfl, hS1, fun p hp => ?_⟩
    rw [show (((k + 1 : Nat) : Int) + (m : Int)) = ((k + 1 : Nat) : Int) + ((m : Nat) : Int) from rfl, cut_mid cs (k + 1) m hle]
    have hR2 : upd H1 p (.lst (nv ((cs.drop (k + 1)).take m))) r = some (.ins CR dx (rF a (k + 1))) := same_upd hp _ _ hR1
    refine ⟨_, rfl, r, CR, dx, _, _, rfl, hR2, T.cl, T.nP, rF_place _ _, _, rfl, _, _, rfl, rfl, dx, _, hR2, (by show 2 < 1000; decide), ?_⟩
    refine ⟨_, rfl, ?_⟩
    have pr : p ≠ r := fun z => by rw [z, hR1] at hp; cases hp
    have np : H p = none := by
      cases e : H p with
      | none => rfl
      | some o =>
        have := k1 _ _ e pr
        rw [hp] at this; cases this
    refine q _ p (k1.trans ((But.of (same_upd hp)).trans But.upd)) ⟨dx, ?_⟩ np ?_
    · rw [upd_same]
      exact congrArg (fun z => some (HO.ins CR dx z)) (rF_put a (k + 1) _ (k + 1 + m) (by omega))
    · rw [upd_ne pr, upd_same]
end
end Sq
set_option Elab.async false
set_option linter.unusedVariables false
set_option maxRecDepth 100000
set_option maxHeartbeats 2000000
/-! ### rules of my own: lists among lists, a list's place, lesser lists, unlike lists -/
namespace Sq
open PySem PySem.Spec PyProof.Rows L2
open PySem.W (Holds HoldAll DatumOrd minOf maxOf listLt)
open Krct (Glued to from_ inverse cycleOf cycles name less)
def rInL (K : PySem.W.Frag) : R2 := fun x y H Q => ∃ (r p : Addr) (rs : List Addr) (ls : List (List Nat)) (l : List Nat), x = .ref r ∧ y = .ref p ∧ SqL K H p (rs.map V.ref) ∧ RowsAt H rs ls ∧ H r = some (.lst (nv l)) ∧ Q (.bl (decide (l ∈ ls))) H
def rNotInL (K : PySem.W.Frag) : R2 := fun x y H Q => ∃ (r p : Addr) (rs : List Addr) (ls : List (List Nat)) (l : List Nat), x = .ref r ∧ y = .ref p ∧ SqL K H p (rs.map V.ref) ∧ RowsAt H rs ls ∧ H r = some (.lst (nv l)) ∧ Q (.bl (decide (l ∉ ls))) H
def rIndexL (K : PySem.W.Frag) : V → List V → Hp → VK → Prop := fun v ys H Q => ∃ (p r : Addr) (rs : List Addr) (ls : List (List Nat)) (l : List Nat), v = .ref p ∧ ys = [.ref r] ∧ SqL K H p (rs.map V.ref) ∧ RowsAt H rs ls ∧ H r = some (.lst (nv l)) ∧ l ∈ ls ∧ ls.length ≤ 1000 ∧
  Q (.int ((ls.idxOf l : Nat) : Int)) H
def rLtL : R2 := fun x y H Q => ∃ (a b : Addr) (l k : List Nat), x = .ref a ∧ y = .ref b ∧ H a = some (.lst (nv l)) ∧ H b = some (.lst (nv k)) ∧ Q (.bl (listLt (IntL l) (IntL k))) H
def rNeL : R2 := fun x y H Q => ∃ (a b : Addr) (l k : List Nat), x = .ref a ∧ y = .ref b ∧ H a = some (.lst (nv l)) ∧ H b = some (.lst (nv k)) ∧ Q (.bl (decide (l ≠ k))) H
def rEqL : R2 := fun x y H Q => ∃ (a b : Addr) (l k : List Nat), x = .ref a ∧ y = .ref b ∧ H a = some (.lst (nv l)) ∧ H b = some (.lst (nv k)) ∧ Q (.bl (decide (l = k))) H
theorem IntL_mem {l : List Nat} {ls : List (List Nat)} : IntL l ∈ ls.map IntL ↔ l ∈ ls := by
  rw [List.mem_map]
  constructor
  · rintro ⟨k, hk, e⟩; rw [← IntL_inj e]; exact hk
  · intro h; exact ⟨l, h, rfl⟩
theorem IntL_idx [B : BEq (List Int)] [LawfulBEq (List Int)] (l : List Nat) : ∀ ls : List (List Nat), (ls.map IntL).idxOf (IntL l) = ls.idxOf l
  | [] => rfl
  | k :: ls => by
    rw [List.map_cons, List.idxOf_cons, List.idxOf_cons, IntL_idx l ls]
    have : (IntL k == IntL l) = (k == l) := by
      rw [Bool.eq_iff_iff, beq_iff_eq, beq_iff_eq]
      exact ⟨IntL_inj, fun e => by rw [e]⟩
    rw [this]
section
variable {X : Cx}
theorem op_inL (hu : X.A.units + 3 < cLine) : OpR X (compareOp .In) (rInL X.K) := by
  intro pins s σ H x y v u Q I rx ry h
  obtain ⟨r, p, rs, ls, l, rfl, rfl, hs, R, hr, q⟩ := h
  cases rx
  cases ry
  obtain ⟨its, rv, hl, _⟩ := I.list hs
  have ei := refs_vals rv
  subst ei
  refine PySem.W.in_list_datum (α := List Int) (xs := ls.map IntL) (x := IntL l) hl.isList (by simpa using hold_rows I R) (hold_row I hr) (Nat.lt_of_le_of_lt (by show X.A.units + 1 + 1 ≤ _; omega) hu) ⟨.bl _, H, I, rfl, ?_⟩
  rw [decide_eq_decide.mpr IntL_mem]; exact q
theorem op_notInL (hu : X.A.units + 3 < cLine) : OpR X (compareOp .NotIn) (rNotInL X.K) := by
  intro pins s σ H x y v u Q I rx ry h
  obtain ⟨r, p, rs, ls, l, rfl, rfl, hs, R, hr, q⟩ := h
  cases rx
  cases ry
  obtain ⟨its, rv, hl, _⟩ := I.list hs
  have ei := refs_vals rv
  subst ei
  refine PySem.W.notIn_list_datum (α := List Int) (xs := ls.map IntL) (x := IntL l) hl.isList (by simpa using hold_rows I R) (hold_row I hr) (Nat.lt_of_le_of_lt (by show X.A.units + 1 + 1 ≤ _; omega) hu) ⟨.bl _, H, I, rfl, ?_⟩
  rw [decide_eq_decide.mpr (not_congr IntL_mem)]; exact q
theorem mt_indexL (hu : X.A.units + 3 < cLine) : MtR X "list.index" (rIndexL X.K) := by
  intro pins s σ H x xs v us Q I rx rxs h
  obtain ⟨p, r, rs, ls, l, rfl, rfl, hs, R, hr, hm, hz, q⟩ := h
  obtain ⟨its, rv, hl, _⟩ := I.list hs
  cases rx
  rw [Vals.ref1 rxs]
  have ei := refs_vals rv
  subst ei
  refine PySem.W.index_list_datum (α := List Int) (xs := ls.map IntL) (x := IntL l) hl.isList (hold_rows I R) (hold_row I hr) (Nat.lt_of_le_of_lt (by show X.A.units + 1 + 1 ≤ _; omega) hu) (by rw [List.length_map]; exact le_size hz) (IntL_mem.mpr hm) ?_
  refine ⟨.int _, H, I.tok _, ⟨_, rfl⟩, ?_⟩
  exact (congrArg (fun k : Nat => Q (V.int (k : Int)) H) (@IntL_idx instBEqOfDecidableEq _ l ls)).mpr q
theorem op_ltL (hu : X.A.units + 3 < cLine) : OpR X (compareOp .Lt) rLtL := by
  intro pins s σ H x y v u Q I rx ry h
  obtain ⟨a, b, l, k, rfl, rfl, h1, h2, q⟩ := h
  cases rx
  cases ry
  exact PySem.W.lt_datum (α := List Int) (hold_row I h1) (hold_row I h2) (Nat.lt_of_le_of_lt (by show X.A.units + 1 ≤ _; omega) hu) ⟨.bl _, H, I, rfl, q⟩
theorem op_neL (hu : X.A.units + 3 < cLine) : OpR X (compareOp .NotEq) rNeL := by
  intro pins s σ H x y v u Q I rx ry h
  obtain ⟨a, b, l, k, rfl, rfl, h1, h2, q⟩ := h
  cases rx
  cases ry
  refine PySem.W.ne_datum (α := List Int) (hold_row I h1) (hold_row I h2) (Nat.lt_of_le_of_lt (by show X.A.units + 1 ≤ _; omega) hu) ⟨.bl _, H, I, rfl, ?_⟩
  have e : (IntL l ≠ IntL k) ↔ (l ≠ k) := not_congr ⟨IntL_inj, fun e => by rw [e]⟩
  rw [decide_eq_decide.mpr e]; exact q
theorem op_eqL (hu : X.A.units + 3 < cLine) : OpR X (compareOp .Eq) rEqL := by
  intro pins s σ H x y v u Q I rx ry h
  obtain ⟨a, b, l, k, rfl, rfl, h1, h2, q⟩ := h
  cases rx
  cases ry
  refine PySem.W.eq_datum (α := List Int) (hold_row I h1) (hold_row I h2) (Nat.lt_of_le_of_lt (by show X.A.units + 1 ≤ _; omega) hu) ⟨.bl _, H, I, rfl, ?_⟩
  have e : (IntL l = IntL k) ↔ (l = k) := ⟨IntL_inj, fun e => by rw [e]⟩
  rw [decide_eq_decide.mpr e]; exact q
end
end Sq
set_option Elab.async false
set_option linter.unusedVariables false
set_option maxRecDepth 100000
set_option maxHeartbeats 2000000
namespace Sq
open PySem PySem.Spec PyProof.Rows L2
open Krct (Glued to from_ inverse cycleOf cycles name less)
open Krcv (Node)
/-! ### what the program puts behind -/
def nmN (x : Node) : Node := ⟨name x.g, x.way⟩
def rowN (x : Node) : List Nat := both (name x.g)
def pushP (l : List Node) (y : Node) : List Node := if rowN y ∈ l.map rowN then l else l ++ [y]
def nxtP (x : Node) (m : Nat) : Node := ⟨mv m x.g, x.way ++ [m]⟩
def addP (l : List Node) (x : Node) (ms : List Nat) : List Node := ms.foldl (fun l m => pushP l (nxtP x m)) l
def OkN (n : Nat) (l : List Node) : Prop := ∀ x ∈ l, Ok x.g ∧ x.g.n = n
theorem name_tab {g : Glued} (h : Ok g) : Tab g.n (name g) := by
  obtain ⟨s, hs, e⟩ := (name_is h).is
  rw [e]; exact tab_tab h hs
theorem row_inj {n : Nat} {x y : Glued} (hx : Ok x) (hy : Ok y) (ex : x.n = n) (ey : y.n = n) : both (name x) = both (name y) ↔ name x = name y := by
  subst ex
  exact ⟨fun e => both_inj (name_tab hx) (by rw [← ey]; exact name_tab hy) e, fun e => by rw [e]⟩
theorem pushP_names {n : Nat} {l : List Node} {y : Node} (hl : OkN n l) (hy : Ok y.g) (ey : y.g.n = n) : (pushP l y).map nmN = pushN (l.map nmN) (nmN y) := by
  have key : rowN y ∈ l.map rowN ↔ hasN (l.map nmN) (nmN y).g = true := by
    rw [hasN_iff]
    unfold namesN
    rw [List.map_map, List.mem_map, List.mem_map]
    constructor
    · rintro ⟨x, hx, e⟩
      exact ⟨x, hx, (row_inj (hl x hx).1 hy (hl x hx).2 ey).mp e⟩
    · rintro ⟨x, hx, e⟩
      exact ⟨x, hx, (row_inj (hl x hx).1 hy (hl x hx).2 ey).mpr e⟩
  unfold pushP pushN
  by_cases c : rowN y ∈ l.map rowN
  · rw [if_pos c, if_pos (key.mp c)]
  · rw [if_neg c, if_neg (fun q => c (key.mpr q)), List.map_append]; rfl
theorem OkN.push {n : Nat} {l : List Node} {y : Node} (hl : OkN n l) (hy : Ok y.g) (ey : y.g.n = n) : OkN n (pushP l y) := by
  unfold pushP
  by_cases c : rowN y ∈ l.map rowN
  · rw [if_pos c]; exact hl
  · rw [if_neg c]
    intro x hx
    rcases List.mem_append.mp hx with q | q
    · exact hl x q
    · simp at q; subst q; exact ⟨hy, ey⟩
theorem nxtP_ok {n m : Nat} {x : Node} (h : Ok x.g) (e : x.g.n = n) : Ok (nxtP x m).g ∧ (nxtP x m).g.n = n := ⟨mv_ok h, by show (mv m x.g).n = n; rw [mv_n]; exact e⟩
theorem nxtP_nm {x : Node} (h : Ok x.g) (m : Nat) : nmN (nxtP x m) = ⟨nx m (nmN x).g, (nmN x).way ++ [m]⟩ := by
  show (⟨name (mv m x.g), x.way ++ [m]⟩ : Node) = ⟨name (mv m (name x.g)), x.way ++ [m]⟩
  rw [name_mv h]
theorem addP_snoc (l : List Node) (x : Node) (ms : List Nat) (m : Nat) : addP l x (ms ++ [m]) = pushP (addP l x ms) (nxtP x m) := by
  unfold addP; rw [List.foldl_append]; rfl
theorem addP_ok {n : Nat} {x : Node} (h : Ok x.g) (e : x.g.n = n) : ∀ (ms : List Nat) (l : List Node), OkN n l → OkN n (addP l x ms)
  | [], l, hl => hl
  | m :: ms, l, hl => addP_ok h e ms _ (hl.push (nxtP_ok h e).1 (nxtP_ok h e).2)
theorem addP_names {n : Nat} {l : List Node} {x : Node} (hl : OkN n l) (h : Ok x.g) (e : x.g.n = n) : (addP l x [0, 1, 2]).map nmN = addN (l.map nmN) (nmN x) := by
  have k0 := nxtP_ok (m := 0) h e
  have k1 := nxtP_ok (m := 1) h e
  have k2 := nxtP_ok (m := 2) h e
  have o1 := hl.push k0.1 k0.2
  have o2 := o1.push k1.1 k1.2
  show (pushP (pushP (pushP l (nxtP x 0)) (nxtP x 1)) (nxtP x 2)).map nmN = _
  rw [pushP_names o2 k2.1 k2.2, pushP_names o1 k1.1 k1.2, pushP_names hl k0.1 k0.2, nxtP_nm h, nxtP_nm h, nxtP_nm h]
  rfl
theorem pushP_len (l : List Node) (y : Node) : (pushP l y).length ≤ l.length + 1 := by
  unfold pushP
  by_cases c : rowN y ∈ l.map rowN
  · rw [if_pos c]; omega
  · rw [if_neg c]; simp
theorem addP_len (x : Node) : ∀ (ms : List Nat) (l : List Node), (addP l x ms).length ≤ l.length + ms.length
  | [], l => Nat.le_refl _
  | m :: ms, l => by
    have h1 := addP_len x ms (pushP l (nxtP x m))
    have h2 := pushP_len l (nxtP x m)
    show (addP (pushP l (nxtP x m)) x ms).length ≤ _
    rw [List.length_cons]; omega
theorem pushP_pre (l : List Node) (y : Node) : l <+: pushP l y := by
  unfold pushP
  by_cases c : rowN y ∈ l.map rowN
  · rw [if_pos c]; exact List.prefix_refl _
  · rw [if_neg c]; exact List.prefix_append _ _
theorem addP_pre (x : Node) : ∀ (ms : List Nat) (l : List Node), l <+: addP l x ms
  | [], l => List.prefix_refl _
  | m :: ms, l => (pushP_pre l _).trans (addP_pre x ms _)
/-! ### the orbit's object -/
abbrev sOrbInit : Stmt := inClass (top 22) 0
theorem scOrbInit : FnScope ["self", "surface"] ["self", "surface"] (defScope sOrbInit) := ⟨rfl, rfl, rfl, by decide +kernel, rfl, by decide +kernel, by decide +kernel⟩
def oF (an as aw : Addr) : List (Str × V) := [("names", .ref an), ("surfaces", .ref as), ("ways", .ref aw)]
section
variable (an as aw : Addr)
theorem oF_n : (oF an as aw).lookup ("names" : Str) = some (.ref an) := look_hit
theorem oF_s : (oF an as aw).lookup ("surfaces" : Str) = some (.ref as) := (look_go (by decide +kernel)).trans look_hit
theorem oF_w : (oF an as aw).lookup ("ways" : Str) = some (.ref aw) := (look_go (by decide +kernel)).trans ((look_go (by decide +kernel)).trans look_hit)
theorem oF_new : putF "ways" (.ref aw) (putF "surfaces" (.ref as) (putF "names" (.ref an) [])) = oF an as aw := by
  have d1 : ¬ ("names" : Str) = "surfaces" := by decide +kernel
  have d2 : ¬ ("names" : Str) = "ways" := by decide +kernel
  have d3 : ¬ ("surfaces" : Str) = "ways" := by decide +kernel
  simp only [put_end, put_go d1, put_go d2, put_go d3]; rfl
end
structure OrbC (K : PySem.W.Frag) (mg : Str → Option Value) (C f : Addr) (fd : FuncData) : Prop where
  cl : Cls K C
  nN : NoAttr K C "names"
  nS : NoAttr K C "surfaces"
  nW : NoAttr K C "ways"
  g : mg "Orbit" = some (.ref C)
  M : Mk K C f
  F : Fun K "__init__" "Orbit.__init__" sOrbInit f fd
  b : Binds K fd ["self", "surface"] []
def SurfsAt (C : Addr) (H : Hp) (ss : List Addr) (gs : List Glued) : Prop := ss.length = gs.length ∧ ∀ (i : Nat) (s : Addr) (g : Glued), ss[i]? = some s → gs[i]? = some g → SurfAt C H s g
theorem SurfsAt.snoc {C : Addr} {H : Hp} {ss : List Addr} {gs : List Glued} {s : Addr} {g : Glued} (h : SurfsAt C H ss gs) (hr : SurfAt C H s g) : SurfsAt C H (ss ++ [s]) (gs ++ [g]) := by
  refine ⟨by simp [h.1], fun i r' l' a b => ?_⟩
  by_cases c : i < ss.length
  · rw [List.getElem?_append_left c] at a
    rw [List.getElem?_append_left (by rw [← h.1]; exact c)] at b
    exact h.2 i r' l' a b
  · rw [List.getElem?_append_right (by omega)] at a
    rw [List.getElem?_append_right (by rw [← h.1]; omega)] at b
    by_cases z : i - ss.length = 0
    · rw [z] at a
      rw [← h.1, z] at b
      cases a; cases b
      exact hr
    · rw [List.getElem?_eq_none (by simp; omega)] at a; cases a
/-- no list of references -/
def NoRefs (o : HO) : Prop := ∀ (r : Addr) (rs : List Addr), o ≠ .lst ((r :: rs).map V.ref)
theorem noRefs_nv (l : List Nat) : NoRefs (.lst (nv l)) := fun r rs e => by
  injection e with e
  cases l with
  | nil => cases e
  | cons a l =>
    have e' : V.int (a : Int) :: nv l = V.ref r :: rs.map V.ref := e
    injection e' with e1
    cases e1
theorem noRefs_ins {C dx : Addr} {fs : List (Str × V)} : NoRefs (.ins C dx fs) := fun r rs e => by cases e
theorem noRefs_tup {xs : List V} : NoRefs (.tup xs) := fun r rs e => by cases e
/-- all but lists of references stands as it stood -/
def Kp (H H' : Hp) : Prop := ∀ x o, H x = some o → NoRefs o → H' x = some o
theorem Kp.refl (H : Hp) : Kp H H := fun _ _ e _ => e
theorem Kp.trans {H H1 H2 : Hp} (a : Kp H H1) (b : Kp H1 H2) : Kp H H2 := fun x o e n => b x o (a x o e n) n
theorem Kp.of {H H' : Hp} (s : Same H H') : Kp H H' := fun x o e _ => s x o e
theorem Kp.upd {H : Hp} {t r : Addr} {rs : List Addr} {u : HO} (h : H t = some (.lst ((r :: rs).map V.ref))) : Kp H (upd H t u) := fun x o e n => by
  have : x ≠ t := fun z => by
    rw [z, h] at e
    exact n r rs (Option.some.inj e).symm
  rw [upd_ne this]; exact e
theorem SurfAt.kp {C : Addr} {H H' : Hp} {a : Addr} {g : Glued} (k : Kp H H') (h : SurfAt C H a g) : SurfAt C H' a g := by
  obtain ⟨dx, ae, an, aw, as, h1, h2, h3, h4, h5⟩ := h
  exact ⟨dx, ae, an, aw, as, k _ _ h1 noRefs_ins, k _ _ h2 (noRefs_nv _), k _ _ h3 (noRefs_nv _), k _ _ h4 (noRefs_nv _), k _ _ h5 (noRefs_nv _)⟩
theorem RowsAt.kp {H H' : Hp} {rs : List Addr} {ls : List (List Nat)} (k : Kp H H') (h : RowsAt H rs ls) : RowsAt H' rs ls := ⟨h.1, fun i r l a b => k _ _ (h.2 i r l a b) (noRefs_nv _)⟩
theorem SurfsAt.kp {C : Addr} {H H' : Hp} {ss : List Addr} {gs : List Glued} (k : Kp H H') (h : SurfsAt C H ss gs) : SurfsAt C H' ss gs := ⟨h.1, fun i r l a b => (h.2 i r l a b).kp k⟩
structure OrbAt (CO C : Addr) (n : Nat) (H : Hp) (o an as aw : Addr) (rs ss ws : List Addr) (ps : List Node) : Prop where
  ins : ∃ dx, H o = some (.ins CO dx (oF an as aw))
  hn : H an = some (.lst (rs.map V.ref))
  hs : H as = some (.lst (ss.map V.ref))
  hw : H aw = some (.lst (ws.map V.ref))
  rn : RowsAt H rs (ps.map rowN)
  rs_ : SurfsAt C H ss (ps.map Node.g)
  rw_ : RowsAt H ws (ps.map Node.way)
  d1 : an ≠ as
  d2 : an ≠ aw
  d3 : as ≠ aw
  ne : ps ≠ []
  ok : OkN n ps
section
variable {CO C : Addr} {n : Nat} {H H' : Hp} {o an as aw : Addr} {rs ss ws : List Addr} {ps : List Node}
theorem OrbAt.same (s : Same H H') (h : OrbAt CO C n H o an as aw rs ss ws ps) : OrbAt CO C n H' o an as aw rs ss ws ps := by
  obtain ⟨dx, h1⟩ := h.ins
  exact ⟨⟨dx, s _ _ h1⟩, s _ _ h.hn, s _ _ h.hs, s _ _ h.hw, h.rn.kp (.of s), h.rs_.kp (.of s), h.rw_.kp (.of s), h.d1, h.d2, h.d3, h.ne, h.ok⟩
theorem cons_of {α β : Type} {l : List α} {k : List β} (h : l.length = k.length) (n : k ≠ []) : ∃ a r, l = a :: r := by
  cases l with
  | nil =>
    cases k with
    | nil => exact absurd rfl n
    | cons _ _ => simp at h
  | cons a r => exact ⟨a, r, rfl⟩
theorem OrbAt.len_n (h : OrbAt CO C n H o an as aw rs ss ws ps) : rs.length = ps.length := by have := h.rn.1; rwa [List.length_map] at this
theorem OrbAt.len_s (h : OrbAt CO C n H o an as aw rs ss ws ps) : ss.length = ps.length := by have := h.rs_.1; rwa [List.length_map] at this
theorem OrbAt.len_w (h : OrbAt CO C n H o an as aw rs ss ws ps) : ws.length = ps.length := by have := h.rw_.1; rwa [List.length_map] at this
theorem OrbAt.refs_n (h : OrbAt CO C n H o an as aw rs ss ws ps) : ∃ r q, H an = some (.lst ((r :: q).map V.ref)) := by
  obtain ⟨r, q, rfl⟩ := cons_of h.len_n h.ne
  exact ⟨r, q, h.hn⟩
theorem OrbAt.refs_s (h : OrbAt CO C n H o an as aw rs ss ws ps) : ∃ r q, H as = some (.lst ((r :: q).map V.ref)) := by
  obtain ⟨r, q, rfl⟩ := cons_of h.len_s h.ne
  exact ⟨r, q, h.hs⟩
theorem OrbAt.refs_w (h : OrbAt CO C n H o an as aw rs ss ws ps) : ∃ r q, H aw = some (.lst ((r :: q).map V.ref)) := by
  obtain ⟨r, q, rfl⟩ := cons_of h.len_w h.ne
  exact ⟨r, q, h.hw⟩
def But3 (an as aw : Addr) (H H' : Hp) : Prop := ∀ x u, H x = some u → x ≠ an → x ≠ as → x ≠ aw → H' x = some u
theorem But3.of {an as aw : Addr} {H H' : Hp} (s : Same H H') : But3 an as aw H H' := fun x u e _ _ _ => s x u e
theorem But3.trans {an as aw : Addr} {H H1 H2 : Hp} (a : But3 an as aw H H1) (b : But3 an as aw H1 H2) : But3 an as aw H H2 := fun x u e n1 n2 n3 => b x u (a x u e n1 n2 n3) n1 n2 n3
/-- one more: its name at q, its surface at p, its way at z -/
theorem OrbAt.grow (O : OrbAt CO C n H o an as aw rs ss ws ps) {q p z : Addr} {y : Node} {H3 : Hp} (hq : H q = some (.lst (nv (rowN y)))) (hp : SurfAt C H p y.g) (oky : Ok y.g) (ny : y.g.n = n)
    (s : Same (upd (upd H an (.lst (rs.map V.ref ++ [.ref q]))) as (.lst (ss.map V.ref ++ [.ref p]))) H3) (hz : H3 z = some (.lst (nv y.way))) :
    OrbAt CO C n (upd H3 aw (.lst (ws.map V.ref ++ [.ref z]))) o an as aw (rs ++ [q]) (ss ++ [p]) (ws ++ [z]) (ps ++ [y]) ∧ But3 an as aw H (upd H3 aw (.lst (ws.map V.ref ++ [.ref z]))) := by
  obtain ⟨r1, q1, e1⟩ := O.refs_n
  obtain ⟨r2, q2, e2⟩ := O.refs_s
  obtain ⟨r3, q3, e3⟩ := O.refs_w
  have k1 : Kp H (upd H an (.lst (rs.map V.ref ++ [.ref q]))) := Kp.upd e1
  have k2 : Kp (upd H an (.lst (rs.map V.ref ++ [.ref q]))) (upd (upd H an (.lst (rs.map V.ref ++ [.ref q]))) as (.lst (ss.map V.ref ++ [.ref p]))) := Kp.upd (r := r2) (rs := q2) (by rw [upd_ne (Ne.symm O.d1)]; exact e2)
  have aw3 : H3 aw = some (.lst ((r3 :: q3).map V.ref)) := s _ _ (by rw [upd_ne (Ne.symm O.d3), upd_ne (Ne.symm O.d2)]; exact e3)
  have an3 : H3 an = some (.lst (rs.map V.ref ++ [.ref q])) := s _ _ (by rw [upd_ne O.d1, upd_same])
  have as3 : H3 as = some (.lst (ss.map V.ref ++ [.ref p])) := s _ _ (by rw [upd_same])
  have k3 : Kp H (upd H3 aw (.lst (ws.map V.ref ++ [.ref z]))) := (k1.trans k2).trans ((Kp.of s).trans (Kp.upd aw3))
  have kz : Kp H3 (upd H3 aw (.lst (ws.map V.ref ++ [.ref z]))) := Kp.upd aw3
  obtain ⟨dx, hi⟩ := O.ins
  refine ⟨⟨⟨dx, k3 _ _ hi noRefs_ins⟩, ?_, ?_, ?_, ?_, ?_, ?_, O.d1, O.d2, O.d3, by simp, ?_⟩, ?_⟩
  · rw [upd_ne O.d2, an3, List.map_append]; rfl
  · rw [upd_ne O.d3, as3, List.map_append]; rfl
  · rw [upd_same, List.map_append]; rfl
  · rw [List.map_append]; exact (O.rn.kp k3).snoc (k3 _ _ hq (noRefs_nv _))
  · rw [List.map_append]; exact (O.rs_.kp k3).snoc (hp.kp k3)
  · rw [List.map_append]; exact (O.rw_.kp k3).snoc (kz _ _ hz (noRefs_nv _))
  · intro x hx
    rcases List.mem_append.mp hx with c | c
    · exact O.ok x c
    · simp at c; subst c; exact ⟨oky, ny⟩
  · intro x u e n1 n2 n3
    rw [upd_ne n3]
    exact s _ _ (by rw [upd_ne n2, upd_ne n1]; exact e)
end
end Sq
set_option Elab.async false
set_option linter.unusedVariables false
set_option maxRecDepth 100000
set_option maxHeartbeats 2000000
namespace Sq
open PySem PySem.Spec PyProof.Rows L2
open Krct (Glued to from_ inverse cycleOf cycles name less)
open Krcv (Node)
theorem SurfAt.butE {C : Addr} {p : Addr} {H H' : Hp} {a : Addr} {g : Glued} {CO dx : Addr} (s : But p H H') (hp : H p = some (.ins CO dx [])) (h : SurfAt C H a g) : SurfAt C H' a g := by
  obtain ⟨dx', ae, an, aw, as, h1, h2, h3, h4, h5⟩ := h
  have nl : ∀ {x : Addr} {xs : List V}, H x = some (.lst xs) → x ≠ p := fun e z => by rw [z, hp] at e; cases e
  refine ⟨dx', ae, an, aw, as, s _ _ h1 (fun z => ?_), s _ _ h2 (nl h2), s _ _ h3 (nl h3), s _ _ h4 (nl h4), s _ _ h5 (nl h5)⟩
  rw [z, hp] at h1
  injection h1 with h1
  injection h1 with _ _ h1
  cases h1
def spOrbInit (CO C : Addr) : Sp := fun vs H Q _ => ∃ (p dx a : Addr) (g : Glued), vs = [.ref p, .ref a] ∧ H p = some (.ins CO dx []) ∧ SurfAt C H a g ∧ Ok g ∧ g.n ≤ 6 ∧
  ∀ (H' : Hp) (an as aw : Addr) (rs ss ws : List Addr), OrbAt CO C g.n H' p an as aw rs ss ws [⟨g, []⟩] → But p H H' → H an = none → H as = none → H aw = none → Q .non H'
abbrev sTooMany : Stmt := top 23
theorem scTooMany : FnScope ["orbit"] ["orbit"] (defScope sTooMany) := ⟨rfl, rfl, rfl, by decide +kernel, rfl, by decide +kernel, by decide +kernel⟩
def spTooMany (CO C : Addr) : Sp := fun vs H Q _ => ∃ (o an as aw : Addr) (n : Nat) (rs ss ws : List Addr) (ps : List Node), vs = [.ref o] ∧ OrbAt CO C n H o an as aw rs ss ws ps ∧
  ∀ (H' : Hp), Same H H' → Q (.bl (decide (120 < ps.length))) H'
abbrev sAdd : Stmt := top 24
theorem scAdd : FnScope ["orbit", "turn", "move", "there", "name"] ["orbit", "turn"] (defScope sAdd) := ⟨rfl, rfl, rfl, by decide +kernel, rfl, by decide +kernel, by decide +kernel⟩
def spAdd (CO C : Addr) : Sp := fun vs H Q _ => ∃ (o an as aw : Addr) (n t : Nat) (rs ss ws : List Addr) (ps : List Node) (x : Node), vs = [.ref o, .int (t : Int)] ∧ OrbAt CO C n H o an as aw rs ss ws ps ∧ n ≤ 6 ∧ ps[t]? = some x ∧ ps.length ≤ 120 ∧ x.way.length ≤ 200 ∧
  ∀ (H' : Hp) (rs' ss' ws' : List Addr), OrbAt CO C n H' o an as aw rs' ss' ws' (addP ps x [0, 1, 2]) → But3 an as aw H H' → Q .non H'
section
variable {P : Program} {w : World} {K : PySem.W.Frag} {mg : Str → Option Value} {base : Heap} {CO fO C fS : Addr} {fdO fdS : FuncData}
theorem ok_orbInit {fN : Addr} {fdN : FuncData} (T : OrbC K mg CO fO fdO) (DN : DefAt K mg "name_of" sName ["surface"] fN fdN) (GN : FnOk P w K mg base CX0 4 fN fdN ["surface"] (spName C)) : FnOk P w K mg base CX0 5 fO fdO ["self", "surface"] (spOrbInit CO C) := by
  refine T.F.ok scOrbInit (fun vs H Q E h => ?_) (fun cdv A outer s0 H vs Q E hr h => ?_)
  · obtain ⟨p, dx, a, g, rfl, _⟩ := h
    rfl
  · obtain ⟨p, dx, a, g, rfl, hp, hS, hg, hn, k⟩ := h
    refine ⟨_, pss_cons (ps_fld (pv 0) (pe_lst (pa_cons (pe_call GN hr (by rfl) DN.g DN.F.kp DN.b .nil pass0 (pa_cons (pv 1) pa_nil)) pa_nil)) rfl)
      (pss_cons (ps_fld (pv 0) (pe_lst (pa_cons (pv 1) pa_nil)) rfl)
      (pss_one (ps_fld (pv 0) (pe_lst (pa_cons (pe_lst pa_nil) pa_nil)) rfl))), ?_⟩
    refine ⟨_, rfl, a, g, rfl, hS, hg, hn, fun H1 q s1 hq => ?_⟩
    refine ⟨le_size (by simp), fun an nan => ?_⟩
    have p1 : H1 p = some (.ins CO dx []) := s1 _ _ hp
    have anp : an ≠ p := fun z => by rw [z, p1] at nan; cases nan
    have qp : q ≠ p := fun z => by rw [z, p1] at hq; cases hq
    refine ⟨_, rfl, p, CO, dx, _, rfl, same_upd nan _ _ p1, T.cl, T.nN, (by show 0 < 1000; decide), ?_⟩
    generalize eH3 : upd (upd H1 an (.lst [.ref q])) p (.ins CO dx (putF "names" (.ref an) [])) = H3
    have k13 : ∀ b o, H1 b = some o → b ≠ p → H3 b = some o := fun b o e ne => by rw [← eH3, upd_ne ne]; exact same_upd nan _ _ e
    have p3 : H3 p = some (.ins CO dx (putF "names" (.ref an) [])) := by rw [← eH3]; exact upd_same
    have an3 : H3 an = some (.lst [.ref q]) := by rw [← eH3, upd_ne anp]; exact upd_same
    refine ⟨_, rfl, le_size (by simp), fun as nas => ?_⟩
    have asp : as ≠ p := fun z => by rw [z, p3] at nas; cases nas
    refine ⟨_, rfl, p, CO, dx, _, rfl, same_upd nas _ _ p3, T.cl, T.nS, (by show 1 < 1000; decide), ?_⟩
    generalize eH5 : upd (upd H3 as (.lst [.ref a])) p (.ins CO dx (putF "surfaces" (.ref as) (putF "names" (.ref an) []))) = H5
    have k35 : ∀ b o, H3 b = some o → b ≠ p → H5 b = some o := fun b o e ne => by rw [← eH5, upd_ne ne]; exact same_upd nas _ _ e
    have p5 : H5 p = some (.ins CO dx (putF "surfaces" (.ref as) (putF "names" (.ref an) []))) := by rw [← eH5]; exact upd_same
    have as5 : H5 as = some (.lst [.ref a]) := by rw [← eH5, upd_ne asp]; exact upd_same
    refine ⟨le_size (by simp), fun u nu => ?_⟩
    refine ⟨le_size (by simp), fun aw naw => ?_⟩
    have s57 : Same H5 (upd (upd H5 u (.lst [])) aw (.lst [.ref u])) := (same_upd nu).trans (same_upd naw)
    have awp : aw ≠ p := fun z => by
      have := same_upd (o := .lst []) nu _ _ p5
      rw [z, this] at naw; cases naw
    have up : u ≠ p := fun z => by rw [z, p5] at nu; cases nu
    have uaw : u ≠ aw := fun z => by rw [← z, upd_same] at naw; cases naw
    refine ⟨_, rfl, p, CO, dx, _, rfl, s57 _ _ p5, T.cl, T.nW, (by show 2 < 1000; decide), ?_⟩
    rw [oF_new]
    generalize eH8 : upd (upd (upd H5 u (.lst [])) aw (.lst [.ref u])) p (.ins CO dx (oF an as aw)) = H8
    have k58 : ∀ b o, H5 b = some o → b ≠ p → H8 b = some o := fun b o e ne => by rw [← eH8, upd_ne ne]; exact s57 _ _ e
    have p8 : H8 p = some (.ins CO dx (oF an as aw)) := by rw [← eH8]; exact upd_same
    have aw8 : H8 aw = some (.lst [.ref u]) := by rw [← eH8, upd_ne awp]; exact upd_same
    have u8 : H8 u = some (.lst []) := by rw [← eH8, upd_ne up, upd_ne uaw]; exact upd_same
    have an8 : H8 an = some (.lst [.ref q]) := k58 _ _ (k35 _ _ an3 anp) anp
    have as8 : H8 as = some (.lst [.ref a]) := k58 _ _ as5 asp
    have q8 : H8 q = some (.lst (nv (both (name g)))) := k58 _ _ (k35 _ _ (k13 _ _ hq qp) qp) qp
    have kk : But p H H8 := fun b o e ne => k58 _ _ (k35 _ _ (k13 _ _ (s1 _ _ e) ne) ne) ne
    have S8 : SurfAt C H8 a g := hS.butE kk hp
    have n5 : ∀ {b : Addr}, H5 b = none → b ≠ p → H b = none := fun {b} e ne => by
      cases c : H b with
      | none => rfl
      | some o => rw [k35 _ _ (k13 _ _ (s1 _ _ c) ne) ne] at e; cases e
    refine k H8 an as aw [q] [a] [u] ⟨⟨dx, p8⟩, an8, as8, aw8, ?_, ?_, ?_, ?_, ?_, ?_, by simp, ?_⟩ kk (s1.free nan) ?_ ?_
    · exact RowsAt.nil.snoc q8
    · exact (show SurfsAt C H8 [] [] from ⟨rfl, fun i r l a => by simp at a⟩).snoc S8
    · exact RowsAt.nil.snoc u8
    · exact fun z => by rw [z] at an3; rw [nas] at an3; cases an3
    · exact fun z => by
        have h1 := same_upd (o := .lst []) nu _ _ (k35 _ _ an3 anp)
        rw [z, naw] at h1; cases h1
    · exact fun z => by
        have h1 := same_upd (o := .lst []) nu _ _ as5
        rw [z, naw] at h1; cases h1
    · intro x hx
      simp at hx; subst hx; exact ⟨hg, rfl⟩
    · cases c : H as with
      | none => rfl
      | some o => rw [k13 _ _ (s1 _ _ c) asp] at nas; cases nas
    · refine n5 ?_ awp
      rw [upd_ne (Ne.symm uaw)] at naw; exact naw
theorem ok_tooMany {f : Addr} {fd : FuncData} (T : OrbC K mg CO fO fdO) (B : Blt mg) (Z : Nums mg) (D : DefAt K mg "has_too_many" sTooMany ["orbit"] f fd) : FnOk P w K mg base CX0 1 f fd ["orbit"] (spTooMany CO C) := by
  refine D.F.ok scTooMany (fun vs H Q E h => ?_) (fun cdv A outer s0 H vs Q E hr h => ?_)
  · obtain ⟨o, an, as, aw, n, rs, ss, ws, ps, rfl, _⟩ := h
    rfl
  · obtain ⟨o, an, as, aw, n, rs, ss, ws, ps, rfl, O, k⟩ := h
    refine ⟨_, pss_one (ps_ret (pe_cmpR op_gt (pe_callB call_len_seq (by rfl) B.len PySem.boot_len (pa_cons (pe_fld (pv 0) rfl) pa_nil)) (pe_cn Z.MOST_NAMES (by rfl)) (nomark _))), ?_⟩
    obtain ⟨dx, hi⟩ := O.ins
    refine ⟨_, rfl, o, CO, dx, _, _, rfl, hi, T.cl, T.nN, oF_n _ _ _, an, _, rfl, .inl (SqL.of O.hn), _, _, rfl, rfl, ?_⟩
    have := k H (Same.refl _)
    have e : decide ((120 : Int) < ((rs.map V.ref).length : Int)) = decide (120 < ps.length) := by
      rw [decide_eq_decide, List.length_map, O.len_n]; omega
    rw [← e] at this
    exact this
theorem ok_add {f fM fN : Addr} {fd fdM fdN : FuncData} (T : OrbC K mg CO fO fdO) (Z : Nums mg) (D : DefAt K mg "add_moved" sAdd ["orbit", "turn"] f fd) (DM : DefAt K mg "moved" sMoved ["move", "surface"] fM fdM) (DN : DefAt K mg "name_of" sName ["surface"] fN fdN)
    (GM : FnOk P w K mg base CX0 4 fM fdM ["move", "surface"] (spMoved C)) (GN : FnOk P w K mg base CX0 4 fN fdN ["surface"] (spName C)) : FnOk P w K mg base CX0 5 f fd ["orbit", "turn"] (spAdd CO C) := by
  refine D.F.ok scAdd (fun vs H Q E h => ?_) (fun cdv A outer s0 H vs Q E hr h => ?_)
  · obtain ⟨o, an, as, aw, n, t, rs, ss, ws, ps, x, rfl, _⟩ := h
    rfl
  · obtain ⟨o, an, as, aw, n, t, rs, ss, ws, ps, x, rfl, O, hn, hx, hlen, hway, k⟩ := h
    have nd := scAdd.nd
    refine ⟨_, pss_one (ps_for PassesOwn.never rfl (pi_tup (pe_tup (pa_cons (pe_cn Z.SHEARED (by rfl)) (pa_cons (pe_cn Z.SHEARED_BACK (by rfl)) (pa_cons (pe_cn Z.TURNED (by rfl)) pa_nil))))) (pg_name (i := 2) nd rfl (.inl rfl))
      (pss_cons (ps_set (i := 3) nd rfl (.inl rfl) (pe_call GM hr (by rfl) DM.g DM.F.kp DM.b .nil pass0 (pa_cons (pv 2) (pa_cons (pe_ix ix_list (pe_fld (pv 0) rfl) (pv 1) (fun _ _ => rfl)) pa_nil))))
      (pss_cons (ps_set (i := 4) nd rfl (.inl rfl) (pe_call GN hr (by rfl) DN.g DN.F.kp DN.b .nil pass0 (pa_cons (pv 3) pa_nil)))
      (pss_one (ps_if (pt_cmpR (op_notInL (Nat.lt_of_le_of_lt (Nat.add_le_add_left (by decide) _) hr.units)) (pv 4) (pe_fld (pv 0) rfl) (by rfl))
        (pss_cons (ps_expr (pe_bm PySem.F.plainAttrs_list PySem.F.slot_list_append PySem.F.type_list_append mt_append (pe_fld (pv 0) rfl) (pa_cons (pv 4) pa_nil)))
        (pss_cons (ps_expr (pe_bm PySem.F.plainAttrs_list PySem.F.slot_list_append PySem.F.type_list_append mt_append (pe_fld (pv 0) rfl) (pa_cons (pv 3) pa_nil)))
        (pss_one (ps_expr (pe_bm PySem.F.plainAttrs_list PySem.F.slot_list_append PySem.F.type_list_append mt_append (pe_fld (pv 0) rfl) (pa_cons (pe_op op_cat (pe_ix ix_list (pe_fld (pv 0) rfl) (pv 1) (fun _ _ => rfl)) (pe_lst (pa_cons (pv 2) pa_nil))) pa_nil))))))
        pss_nil))))), ?_⟩
    refine ⟨by show 3 ≤ sizeLine; decide, fun tt htt => ?_⟩
    have okx := O.ok x (List.mem_of_getElem? hx)
    refine ⟨tt, rfl, ⟨_, SqT.of upd_same⟩, for_tup (K := K) (a := tt) (xs := nv [0, 1, 2]) (fun j σ H2 => ∃ v2 v3 v4 rs' ss' ws', σ = [some (.ref o), some (.int (t : Int)), v2, v3, v4] ∧ OrbAt CO C n H2 o an as aw rs' ss' ws' (addP ps x (([0, 1, 2] : List Nat).take j)) ∧ But3 an as aw H H2 ∧ H2 tt = some (.tup (nv [0, 1, 2])))
      ⟨none, none, none, rs, ss, ws, rfl, O.same (same_upd htt), But3.of (same_upd htt), upd_same⟩ (fun _ _ _ _ ⟨_, _, _, _, _, _, _, _, _, e⟩ => SqT.of e) ?_ ?_⟩
    · rintro j y σ2 H2 hj ⟨v2, v3, v4, rs', ss', ws', rfl, O2, b2, ht2⟩
      obtain ⟨m, hm, rfl⟩ := nv_get_inv hj
      have hj2 : ([0, 1, 2] : List Nat).take (j + 1) = ([0, 1, 2] : List Nat).take j ++ [m] := by
        rw [List.take_add_one, hm]; rfl
      have hm3 : m < 3 := by
        have := List.mem_of_getElem? hm
        simp at this; omega
      have hjl : j < 3 := (List.getElem?_eq_some_iff.mp hm).1
      have hlen2 : (addP ps x (([0, 1, 2] : List Nat).take j)).length ≤ 123 := by
        have h1 := addP_len x (([0, 1, 2] : List Nat).take j) ps
        rw [List.length_take] at h1
        simp at h1
        omega
      have hx2 : (addP ps x (([0, 1, 2] : List Nat).take j))[t]? = some x := by
        obtain ⟨r, e⟩ := addP_pre x (([0, 1, 2] : List Nat).take j) ps
        rw [← e, List.getElem?_append_left (List.getElem?_eq_some_iff.mp hx).1]; exact hx
      rw [hj2, addP_snoc]
      generalize hps : addP ps x (([0, 1, 2] : List Nat).take j) = ps2 at O2 hlen2 hx2 ⊢
      obtain ⟨dx, hi⟩ := O2.ins
      obtain ⟨sx, hsx⟩ : ∃ s, ss'[t]? = some s := ⟨_, List.getElem?_eq_getElem (by rw [O2.len_s]; exact (List.getElem?_eq_some_iff.mp hx2).1)⟩
      have Sx : SurfAt C H2 sx x.g := O2.rs_.2 t sx x.g hsx (by rw [List.getElem?_map, hx2]; rfl)
      refine ⟨_, rfl, _, rfl, o, CO, dx, _, _, rfl, hi, T.cl, T.nS, oF_s _ _ _, _, rfl, as, _, _, V.ref sx, rfl, rfl, SqL.of O2.hs, atI_nat (by rw [List.getElem?_map, hsx]; rfl), sx, m, x.g, rfl, hm3, Sx, okx.1.toGl, by rw [okx.2]; exact hn, fun H3 p s3 np S3 off3 => ?_⟩
      have oky := nxtP_ok (m := m) okx.1 okx.2
      refine ⟨_, rfl, p, mv m x.g, rfl, S3, oky.1, by have := oky.2; show (mv m x.g).n ≤ 6; rw [mv_n, okx.2]; exact hn, fun H4 q s4 hq => ?_⟩
      have O4 := (O2.same s3).same s4
      have S4 : SurfAt C H4 p (nxtP x m).g := S3.same s4
      have b4 : But3 an as aw H H4 := b2.trans ((But3.of s3).trans (But3.of s4))
      have ht4 := s4 _ _ (s3 _ _ ht2)
      have hq4 : H4 q = some (.lst (nv (rowN (nxtP x m)))) := hq
      obtain ⟨dx4, hi4⟩ := O4.ins
      refine ⟨_, rfl, _, rfl, o, CO, dx4, _, _, rfl, hi4, T.cl, T.nN, oF_n _ _ _, q, an, rs', ps2.map rowN, rowN (nxtP x m), rfl, rfl, SqL.of O4.hn, O4.rn, hq4, _, rfl, ?_⟩
      unfold pushP
      by_cases c : rowN (nxtP x m) ∈ ps2.map rowN
      · refine br_f (decide_eq_false (fun z => z c)) ?_
        rw [if_pos c]
        exact ⟨_, _, _, rs', ss', ws', rfl, O4, b4, ht4⟩
      · refine br_t (decide_eq_true c) ?_
        rw [if_neg c]
        obtain ⟨r1, q1, e1⟩ := O4.refs_n
        obtain ⟨r2, q2, e2⟩ := O4.refs_s
        refine ⟨_, rfl, o, CO, dx4, _, _, rfl, hi4, T.cl, T.nN, oF_n _ _ _, .inl ⟨rfl, _, SqL.of O4.hn⟩, _, rfl, an, _, _, rfl, rfl, O4.hn, ?_, ?_⟩
        · rw [List.length_map, O4.len_n]; exact lt_size (by omega)
        have k5 : Kp H4 (upd H4 an (.lst (rs'.map V.ref ++ [.ref q]))) := Kp.upd e1
        have as5 : upd H4 an (.lst (rs'.map V.ref ++ [.ref q])) as = some (.lst (ss'.map V.ref)) := by rw [upd_ne (Ne.symm O4.d1)]; exact O4.hs
        refine ⟨_, rfl, o, CO, dx4, _, _, rfl, k5 _ _ hi4 noRefs_ins, T.cl, T.nS, oF_s _ _ _, .inl ⟨rfl, _, SqL.of as5⟩, _, rfl, as, _, _, rfl, rfl, as5, ?_, ?_⟩
        · rw [List.length_map, O4.len_s]; exact lt_size (by omega)
        have k6 : Kp (upd H4 an (.lst (rs'.map V.ref ++ [.ref q]))) (upd (upd H4 an (.lst (rs'.map V.ref ++ [.ref q]))) as (.lst (ss'.map V.ref ++ [.ref p]))) := Kp.upd (r := r2) (rs := q2) (by rw [upd_ne (Ne.symm O4.d1)]; exact e2)
        generalize eH6 : upd (upd H4 an (.lst (rs'.map V.ref ++ [.ref q]))) as (.lst (ss'.map V.ref ++ [.ref p])) = H6 at k6 ⊢
        have k46 : Kp H4 H6 := k5.trans k6
        have hi6 := k46 _ _ hi4 noRefs_ins
        have aw6 : H6 aw = some (.lst (ws'.map V.ref)) := by rw [← eH6, upd_ne (Ne.symm O4.d3), upd_ne (Ne.symm O4.d2)]; exact O4.hw
        have W6 := O4.rw_.kp k46
        obtain ⟨wx, hwx⟩ : ∃ s, ws'[t]? = some s := ⟨_, List.getElem?_eq_getElem (by rw [O4.len_w]; exact (List.getElem?_eq_some_iff.mp hx2).1)⟩
        have hwx6 : H6 wx = some (.lst (nv x.way)) := W6.2 t wx x.way hwx (by rw [List.getElem?_map, hx2]; rfl)
        refine ⟨_, rfl, o, CO, dx4, _, _, rfl, hi6, T.cl, T.nW, oF_w _ _ _, .inl ⟨rfl, _, SqL.of aw6⟩, ?_⟩
        refine ⟨_, rfl, o, CO, dx4, _, _, rfl, hi6, T.cl, T.nW, oF_w _ _ _, _, rfl, aw, _, _, V.ref wx, rfl, rfl, SqL.of aw6, atI_nat (by rw [List.getElem?_map, hwx]; rfl), ?_⟩
        refine ⟨_, rfl, le_size (by simp), fun u hu => ?_⟩
        refine ⟨wx, u, _, _, rfl, rfl, same_upd hu _ _ hwx6, upd_same, ?_, fun z hz => ?_⟩
        · rw [nv_len]; exact le_size (by simp; omega)
        have s68 : Same H6 (upd (upd H6 u (.lst [.int (m : Int)])) z (.lst (nv x.way ++ [.int (m : Int)]))) := (same_upd hu).trans (same_upd hz)
        refine ⟨aw, _, _, rfl, rfl, s68 _ _ aw6, ?_, ?_⟩
        · rw [List.length_map, O4.len_w]; exact lt_size (by omega)
        have G := O4.grow (y := nxtP x m) (z := z) hq4 S4 oky.1 oky.2 (by rw [eH6]; exact s68) (by
          rw [upd_same]
          show _ = some (HO.lst (nv (x.way ++ [m])))
          rw [nv_append]; rfl)
        refine ⟨_, _, _, _, _, _, rfl, G.1, b4.trans G.2, ?_⟩
        have ht6 : H6 tt = some (.tup (nv [0, 1, 2])) := k46 _ _ ht4 noRefs_tup
        have nt : tt ≠ aw := fun z => by rw [z, aw6] at ht6; cases ht6
        rw [upd_ne nt]; exact s68 _ _ ht6
    · rintro σ2 H2 ⟨v2, v3, v4, rs', ss', ws', rfl, O2, b2, ht2⟩
      exact k H2 rs' ss' ws' O2 b2
end
end Sq
set_option Elab.async false
set_option linter.unusedVariables false
set_option maxRecDepth 100000
set_option maxHeartbeats 2000000
namespace Sq
open PySem PySem.Spec PyProof.Rows L2
open PySem.W (listLt)
open Krct (Glued to from_ inverse cycleOf cycles name less)
open Krcv (Node)
theorem of_iteF {A B : Prop} (h : if false = true then A else B) : B := by rwa [if_neg (by simp)] at h
theorem of_iteT {A B : Prop} (h : if true = true then A else B) : A := by rwa [if_pos rfl] at h
/-! ### orbit_of -/
abbrev sOrbitOf : Stmt := top 25
theorem scOrbitOf : FnScope ["surface", "orbit", "turn"] ["surface"] (defScope sOrbitOf) := ⟨rfl, rfl, rfl, by decide +kernel, rfl, by decide +kernel, by decide +kernel⟩
/-- all that came, in the order in which they came -/
structure Came (g : Glued) (ps : List Node) (T : Nat) : Prop where
  is : ps.map nmN = bfs (name g) T
  all : (bfs (name g) T).length ≤ T ∨ 120 < (bfs (name g) T).length
  few : ps.length ≤ 123
  ways : ∀ x ∈ ps, x.way.length ≤ 130
  first : ps[0]? = some ⟨g, []⟩
def spOrbitOf (CO C : Addr) : Sp := fun vs H Q _ => ∃ (a : Addr) (g : Glued), vs = [.ref a] ∧ SurfAt C H a g ∧ Ok g ∧ g.n ≤ 6 ∧
  ∀ (H' : Hp) (o an as aw : Addr) (rs ss ws : List Addr) (ps : List Node) (T : Nat), Same H H' → OrbAt CO C g.n H' o an as aw rs ss ws ps → Came g ps T → Q (.ref o) H'
theorem addP_ways {x : Node} : ∀ (ms : List Nat) (l : List Node) (y : Node), y ∈ addP l x ms → y ∈ l ∨ y.way.length = x.way.length + 1
  | [], l, y, h => .inl h
  | m :: ms, l, y, h => by
    rcases addP_ways ms (pushP l (nxtP x m)) y h with q | q
    · unfold pushP at q
      by_cases c : rowN (nxtP x m) ∈ l.map rowN
      · rw [if_pos c] at q; exact .inl q
      · rw [if_neg c] at q
        rcases List.mem_append.mp q with q | q
        · exact .inl q
        · simp at q; subst q
          exact .inr (by show (x.way ++ [m]).length = _; simp)
    · exact .inr q
/-- behind i turns -/
structure Going (g : Glued) (ps : List Node) (i : Nat) : Prop where
  is : ps.map nmN = bfs (name g) i
  le : i ≤ ps.length
  few : ps.length ≤ 123
  ways : ∀ x ∈ ps, x.way.length ≤ i
  first : ps[0]? = some ⟨g, []⟩
theorem Going.start (g : Glued) : Going g [⟨g, []⟩] 0 := ⟨rfl, Nat.zero_le _, by simp, by simp, rfl⟩
theorem Going.next {g : Glued} {ps : List Node} {i : Nat} {x : Node} {n : Nat} (h : Going g ps i) (hx : ps[i]? = some x) (h120 : ps.length ≤ 120) (ok : OkN n ps) : Going g (addP ps x [0, 1, 2]) (i + 1) := by
  have okx := ok x (List.mem_of_getElem? hx)
  have hi : i < ps.length := (List.getElem?_eq_some_iff.mp hx).1
  have pre := addP_pre x [0, 1, 2] ps
  refine ⟨?_, by have := pre.length_le; omega, ?_, fun y hy => ?_, ?_⟩
  · have e : (bfs (name g) i)[i]? = some (nmN x) := by rw [← h.is, List.getElem?_map, hx]; rfl
    rw [bfs_some e, ← h.is]
    exact addP_names ok okx.1 okx.2
  · have := addP_len x [0, 1, 2] ps
    simp at this; omega
  · rcases addP_ways [0, 1, 2] ps y hy with q | q
    · have := h.ways y q; omega
    · have := h.ways x (List.mem_of_getElem? hx); omega
  · obtain ⟨r, e⟩ := pre
    rw [← e, List.getElem?_append_left (by omega)]; exact h.first
theorem Going.done {g : Glued} {ps : List Node} {i : Nat} (h : Going g ps i) (q : ps.length ≤ i ∨ 120 < ps.length) : Came g ps i := by
  have e : (bfs (name g) i).length = ps.length := by rw [← h.is, List.length_map]
  refine ⟨h.is, by rw [e]; exact q, h.few, fun x hx => ?_, h.first⟩
  have := h.ways x hx
  have := h.le
  have := h.few
  omega
section
variable {P : Program} {w : World} {K : PySem.W.Frag} {mg : Str → Option Value} {base : Heap} {CO fO C fS : Addr} {fdO fdS : FuncData}
theorem ok_orbitOf {f fT fA : Addr} {fd fdT fdA : FuncData} (T : OrbC K mg CO fO fdO) (B : Blt mg) (D : DefAt K mg "orbit_of" sOrbitOf ["surface"] f fd) (DT : DefAt K mg "has_too_many" sTooMany ["orbit"] fT fdT) (DA : DefAt K mg "add_moved" sAdd ["orbit", "turn"] fA fdA)
    (GI : FnOk P w K mg base CX0 5 fO fdO ["self", "surface"] (spOrbInit CO C)) (GT : FnOk P w K mg base CX0 1 fT fdT ["orbit"] (spTooMany CO C)) (GA : FnOk P w K mg base CX0 5 fA fdA ["orbit", "turn"] (spAdd CO C)) :
    FnOk P w K mg base CX0 7 f fd ["surface"] (spOrbitOf CO C) := by
  refine D.F.ok scOrbitOf (fun vs H Q E h => ?_) (fun cdv A outer s0 H vs Q E hr h => ?_)
  · obtain ⟨a, g, rfl, _⟩ := h
    rfl
  · obtain ⟨a, g, rfl, hS, hg, hn, k⟩ := h
    have nd := scOrbitOf.nd
    have hr1 := hr.mono (by decide : 1 ≤ 6)
    have hr5 := hr.mono (by decide : 5 ≤ 6)
    refine ⟨_, pss_cons (ps_set (i := 1) nd rfl (.inl rfl) (pe_make T.M GI hr (by rfl) T.g T.b .nil pass0 (pa_cons (pv 0) pa_nil)))
      (pss_cons (ps_set (i := 2) nd rfl (.inl rfl) pe_int)
      (pss_cons (ps_while PassesOwn.never (PW.pt (pw_and (pt_cmpR op_lt (pv 2) (pe_callB call_len_seq (by rfl) B.len PySem.boot_len (pa_cons (pe_fld (pv 1) rfl) pa_nil)) (nomark _)) (pw_and1 (pt_not (pt_val (pe_call GT hr1 (by rfl) DT.g DT.F.kp DT.b .nil pass0 (pa_cons (pv 1) pa_nil)))))))
        (pss_cons (ps_expr (pe_call GA hr5 (by rfl) DA.g DA.F.kp DA.b .nil pass0 (pa_cons (pv 1) (pa_cons (pv 2) pa_nil))))
        (pss_one (ps_aug (i := 2) nd rfl (.inl rfl) pe_int ip_add))))
      (pss_one (ps_ret (pv 1))))), ?_⟩
    refine ⟨_, rfl, fun o dx no ndx nex => ?_⟩
    have old : Same H (upd (upd H dx (.own o)) o (.ins CO dx [])) := fun y u h => by
      rw [upd_ne (ne_of_none h no), upd_ne (ne_of_none h ndx)]; exact h
    refine ⟨o, dx, a, g, rfl, upd_same, hS.same old, hg, hn, fun H1 an as aw rs ss ws O kp n1 n2 n3 => ⟨rfl, ?_⟩⟩
    have s1 : Same H H1 := Same.made no ndx kp
    have an0 := old.free n1
    have as0 := old.free n2
    have aw0 := old.free n3
    refine while_by (fun σ H' => ∃ (i : Nat) (rs ss ws : List Addr) (ps : List Node), σ = [some (.ref a), some (.ref o), some (.int (i : Int))] ∧ OrbAt CO C g.n H' o an as aw rs ss ws ps ∧ Going g ps i ∧ Same H H')
      (fun σ _ => 124 - (intAt σ 2).toNat) ⟨0, rs, ss, ws, [⟨g, []⟩], rfl, O, Going.start g, s1⟩ ?_ ?_
    · rintro σ H' ⟨i, rs, ss, ws, ps, rfl, O2, G2, s2⟩
      obtain ⟨dx2, hi⟩ := O2.ins
      refine ⟨_, rfl, _, rfl, o, CO, dx2, _, _, rfl, hi, T.cl, T.nN, oF_n _ _ _, an, _, rfl, .inl (SqL.of O2.hn), _, _, rfl, rfl, _, rfl, ?_⟩
      rw [List.length_map, O2.len_n]
      by_cases c : i < ps.length
      · refine br_t (decide_eq_true (by omega)) ?_
        refine ⟨_, rfl, o, an, as, aw, g.n, rs, ss, ws, ps, rfl, O2, fun H3 s3 => ⟨_, rfl, ?_⟩⟩
        have O3 := O2.same s3
        by_cases c2 : 120 < ps.length
        · refine br_f (by rw [decide_eq_true c2]; rfl) ?_
          exact ⟨_, rfl, k H3 o an as aw rs ss ws ps i (s2.trans s3) O3 (G2.done (.inr c2))⟩
        · refine br_t (by rw [decide_eq_false c2]; rfl) ?_
          obtain ⟨x, hx⟩ : ∃ x, ps[i]? = some x := ⟨_, List.getElem?_eq_getElem c⟩
          refine ⟨_, rfl, _, rfl, o, an, as, aw, g.n, i, rs, ss, ws, ps, x, rfl, O3, hn, hx, by omega, by have := G2.ways x (List.mem_of_getElem? hx); have := G2.few; omega, fun H4 rs' ss' ws' O4 b4 => ?_⟩
          refine ⟨_, rfl, _, _, rfl, rfl, ?_⟩
          have s4 : Same H H4 := fun b u e => b4 b u (s3 _ _ (s2 _ _ e)) (fun z => by rw [z, an0] at e; cases e) (fun z => by rw [z, as0] at e; cases e) (fun z => by rw [z, aw0] at e; cases e)
          refine ⟨⟨i + 1, rs', ss', ws', _, rfl, O4, G2.next hx (by omega) O2.ok, s4⟩, ?_⟩
          show 124 - (i + 1) < 124 - i
          have := G2.few
          omega
      · refine br_f (decide_eq_false (by omega)) ?_
        refine br_f rfl ?_
        exact ⟨_, rfl, k H' o an as aw rs ss ws ps i s2 O2 (G2.done (.inl (by omega)))⟩
    · rintro σ H' Q1 Q2 hQ ⟨v, e1, v2, e2, p, C1, dx1, fs, v3, e3, e4, e5, e6, e7, q1, xs, e8, e9, i, j, e10, e11, k1, e12, q⟩
      refine ⟨v, e1, v2, e2, p, C1, dx1, fs, v3, e3, e4, e5, e6, e7, q1, xs, e8, e9, i, j, e10, e11, k1, e12, ?_⟩
      cases k1 with
      | false => exact iteF (hQ _ _ (of_iteF q))
      | true =>
        refine iteT ?_
        obtain ⟨v, e1, o, an, as, aw, n, rs, ss, ws, ps, e2, O, q⟩ := of_iteT q
        exact ⟨v, e1, o, an, as, aw, n, rs, ss, ws, ps, e2, O, fun H9 s9 => let ⟨c9, e9, q9⟩ := q H9 s9; ⟨c9, e9, hQ _ _ q9⟩⟩
end
end Sq
set_option Elab.async false
set_option linter.unusedVariables false
set_option maxRecDepth 100000
set_option maxHeartbeats 2000000
namespace Sq
open PySem PySem.Spec PyProof.Rows L2
open PySem.W (listLt)
open Krct (Glued to from_ inverse cycleOf cycles name less)
open Krcv (Node)
/-! ### count_less -/
abbrev sLess : Stmt := top 26
theorem scLess : FnScope ["orbit", "name"] ["orbit"] (defScope sLess) := ⟨rfl, rfl, rfl, by decide +kernel, rfl, by decide +kernel, by decide +kernel⟩
def ltRow (k l : List Nat) : Bool := listLt (IntL l) (IntL k)
def spLess (CO C : Addr) : Sp := fun vs H Q _ => ∃ (o an as aw : Addr) (n : Nat) (rs ss ws : List Addr) (ps : List Node) (x : Node), vs = [.ref o] ∧ OrbAt CO C n H o an as aw rs ss ws ps ∧ ps[0]? = some x ∧ ps.length ≤ 200 ∧
  ∀ (H' : Hp), Same H H' → Q (.int ((((ps.map rowN).filter (ltRow (rowN x))).length : Nat) : Int)) H'
/-! ### same_but_for_names -/
abbrev sSame : Stmt := top 19
theorem scSame : FnScope ["surface", "other"] ["surface", "other"] (defScope sSame) := ⟨rfl, rfl, rfl, by decide +kernel, rfl, by decide +kernel, by decide +kernel⟩
def spSame (C : Addr) : Sp := fun vs H Q _ => ∃ (a b : Addr) (g k : Glued), vs = [.ref a, .ref b] ∧ SurfAt C H a g ∧ SurfAt C H b k ∧ Ok g ∧ Ok k ∧ k.n = g.n ∧ g.n ≤ 6 ∧
  ∀ (H' : Hp), Same H H' → Q (.bl (Krct.same k g)) H'
theorem same_is {g k : Glued} (hg : Ok g) (hk : Ok k) (e : k.n = g.n) : decide (both (name g) = both (name k)) = Krct.same k g := by
  unfold Krct.same
  rw [Bool.eq_iff_iff, decide_eq_true_iff, Bool.and_eq_true, beq_iff_eq, beq_iff_eq]
  rw [row_inj hg hk rfl e]
  exact ⟨fun h => ⟨e, h.symm⟩, fun h => h.2.symm⟩
/-! ### wheel_length -/
abbrev sWheelLen : Stmt := top 28
theorem scWheelLen : FnScope ["surface", "first", "there", "length"] ["surface"] (defScope sWheelLen) := ⟨rfl, rfl, rfl, by decide +kernel, rfl, by decide +kernel, by decide +kernel⟩
def spWheelLen (C : Addr) : Sp := fun vs H Q _ => ∃ (a : Addr) (g : Glued), vs = [.ref a] ∧ SurfAt C H a g ∧ Ok g ∧ g.n ≤ 6 ∧
  ∀ (H' : Hp), Same H H' → Q (.int (((Krcv.wheelOf g).length : Nat) : Int)) H'
theorem wh_surf {g : Glued} (h : Ok g) : ∀ k, name (shears k g) = wh (name g) k
  | 0 => rfl
  | k + 1 => by
    show name (mv 0 (shears k g)) = name (mv 0 (wh (name g) k))
    rw [← name_mv (shears_ok h k), wh_surf h k]
section
variable {P : Program} {w : World} {K : PySem.W.Frag} {mg : Str → Option Value} {base : Heap} {CO fO C fS : Addr} {fdO fdS : FuncData}
theorem ok_less {f : Addr} {fd : FuncData} (T : OrbC K mg CO fO fdO) (B : Blt mg) (D : DefAt K mg "count_less" sLess ["orbit"] f fd) : FnOk P w K mg base CX0 1 f fd ["orbit"] (spLess CO C) := by
  refine D.F.ok scLess (fun vs H Q E h => ?_) (fun cdv A outer s0 H vs Q E hr h => ?_)
  · obtain ⟨o, an, as, aw, n, rs, ss, ws, ps, x, rfl, _⟩ := h
    rfl
  · obtain ⟨o, an, as, aw, n, rs, ss, ws, ps, x, rfl, O, hx, hl, k⟩ := h
    have nd := scLess.nd
    refine ⟨_, pss_one (ps_ret (pe_callB call_len_seq (by rfl) B.len PySem.boot_len (pa_cons (pe_lc (own := [("name", 1)]) (g := gName 1) (tt := tTest (tOp rLtL (tVar 1) (tOp (rIxL K) (tFld K (tVar 0) "names") (tC (.int 0))))) (te := tVar 1) rfl nd (pi_list (pe_fld (pv 0) rfl))
      (blkOk_by (N := ["orbit", "name"]) (sc := defScope sLess) (by decide +kernel)) (fun _ _ _ _ _ => pg_name (i := 1) nd rfl (Or.inl rfl))
      (fun _ _ _ _ _ => pts_one (pt_cmpR (op_ltL (Nat.lt_of_le_of_lt (Nat.add_le_add_left (by decide) _) hr.units)) (pv 1) (pe_ix ix_list (pe_fld (pv 0) rfl) pe_int (fun _ _ => rfl)) (nomark _)))
      (fun _ _ _ _ _ => pv 1)) pa_nil))), ?_⟩
    obtain ⟨dx, hi⟩ := O.ins
    have hr0 : ∃ r0, rs[0]? = some r0 := ⟨_, List.getElem?_eq_getElem (by rw [O.len_n]; exact (List.getElem?_eq_some_iff.mp hx).1)⟩
    obtain ⟨r0, hr0⟩ := hr0
    have e0 : H r0 = some (.lst (nv (rowN x))) := O.rn.2 0 r0 _ hr0 (by rw [List.getElem?_map, hx]; rfl)
    refine ⟨_, rfl, o, CO, dx, _, _, rfl, hi, T.cl, T.nN, oF_n _ _ _, an, rfl, ⟨_, SqL.of O.hn⟩, fun q hq => ?_⟩
    refine lc_list (K := K) (a := an) (xs := rs.map V.ref) (fun i H' => Same H H' ∧ ∃ ys, H' q = some (.lst ys) ∧ ys.length = (((ps.map rowN).take i).filter (ltRow (rowN x))).length) ⟨same_upd hq, [], upd_same, rfl⟩ (fun i H' _ ⟨s1, _⟩ => SqL.of (s1 _ _ O.hn)) ?_ ?_
    · rintro i v H' hiv ⟨s1, ys, hys, hlen⟩
      rw [List.getElem?_map] at hiv
      cases er : rs[i]? with
      | none => rw [er] at hiv; cases hiv
      | some r =>
        rw [er] at hiv
        have ev : V.ref r = v := Option.some.inj hiv
        subst ev
        have hips : i < ps.length := by rw [← O.len_n]; exact (List.getElem?_eq_some_iff.mp er).1
        obtain ⟨y, hy⟩ : ∃ y, ps[i]? = some y := ⟨_, List.getElem?_eq_getElem hips⟩
        have hmy : (ps.map rowN)[i]? = some (rowN y) := by rw [List.getElem?_map, hy]; rfl
        have er1 : H r = some (.lst (nv (rowN y))) := O.rn.2 i r _ er hmy
        refine ⟨rfl, ?_⟩
        refine ⟨_, rfl, _, rfl, o, CO, dx, _, _, rfl, s1 _ _ hi, T.cl, T.nN, oF_n _ _ _, an, _, _, V.ref r0, rfl, rfl, SqL.of (s1 _ _ O.hn), atI_nat (j := 0) (by rw [List.getElem?_map, hr0]; rfl), r, r0, rowN y, rowN x, rfl, rfl, s1 _ _ er1, s1 _ _ e0, _, rfl, ?_⟩
        have ht : (ps.map rowN).take (i + 1) = (ps.map rowN).take i ++ [rowN y] := by rw [List.take_add_one, hmy]; rfl
        have hle : (((ps.map rowN).take i).filter (ltRow (rowN x))).length ≤ 200 := by
          refine Nat.le_trans (List.length_filter_le ..) ?_
          rw [List.length_take, List.length_map]; omega
        rw [ht, List.filter_append, List.length_append]
        show if ltRow (rowN x) (rowN y) = true then _ else _
        cases c : ltRow (rowN x) (rowN y) with
        | true =>
          refine iteT ?_
          refine ⟨_, rfl, ys, hys, lt_size (by rw [hlen]; omega), same_set hq s1, _, upd_same, ?_⟩
          rw [List.length_append, hlen, List.filter_cons, c]; rfl
        | false =>
          refine iteF ?_
          refine ⟨s1, ys, hys, ?_⟩
          rw [hlen, List.filter_cons, c]; rfl
    · rintro H' ⟨s1, ys, hys, hlen⟩
      rw [List.length_map, List.take_of_length_le (by rw [List.length_map, O.len_n]; exact Nat.le_refl _)] at hlen
      refine ⟨q, _, rfl, .inl (SqL.of hys), ?_⟩
      rw [hlen]
      exact k H' s1
theorem ok_same {f fN : Addr} {fd fdN : FuncData} (D : DefAt K mg "same_but_for_names" sSame ["surface", "other"] f fd) (DN : DefAt K mg "name_of" sName ["surface"] fN fdN)
    (GN : FnOk P w K mg base CX0 4 fN fdN ["surface"] (spName C)) : FnOk P w K mg base CX0 5 f fd ["surface", "other"] (spSame C) := by
  refine D.F.ok scSame (fun vs H Q E h => ?_) (fun cdv A outer s0 H vs Q E hr h => ?_)
  · obtain ⟨a, b, g, k, rfl, _⟩ := h
    rfl
  · obtain ⟨a, b, g, k, rfl, S1, S2, o1, o2, e, hn, q⟩ := h
    refine ⟨_, pss_one (ps_ret (pe_cmpR (op_eqL (Nat.lt_of_le_of_lt (Nat.add_le_add_left (by decide) _) hr.units)) (pe_call GN hr (by rfl) DN.g DN.F.kp DN.b .nil pass0 (pa_cons (pv 0) pa_nil)) (pe_call GN hr (by rfl) DN.g DN.F.kp DN.b .nil pass0 (pa_cons (pv 1) pa_nil)) (nomark _))), ?_⟩
    refine ⟨_, rfl, a, g, rfl, S1, o1, hn, fun H1 x s1 hx => ?_⟩
    refine ⟨_, rfl, b, k, rfl, S2.same s1, o2, by rw [e]; exact hn, fun H2 y s2 hy => ?_⟩
    refine ⟨x, y, _, _, rfl, rfl, s2 _ _ hx, hy, ?_⟩
    rw [same_is o1 o2 e]
    exact q H2 (s1.trans s2)
theorem ok_wheelLen {f fN fM : Addr} {fd fdN fdM : FuncData} (Z : Nums mg) (D : DefAt K mg "wheel_length" sWheelLen ["surface"] f fd) (DM : DefAt K mg "moved" sMoved ["move", "surface"] fM fdM) (DN : DefAt K mg "name_of" sName ["surface"] fN fdN)
    (GM : FnOk P w K mg base CX0 4 fM fdM ["move", "surface"] (spMoved C)) (GN : FnOk P w K mg base CX0 4 fN fdN ["surface"] (spName C)) : FnOk P w K mg base CX0 5 f fd ["surface"] (spWheelLen C) := by
  refine D.F.ok scWheelLen (fun vs H Q E h => ?_) (fun cdv A outer s0 H vs Q E hr h => ?_)
  · obtain ⟨a, g, rfl, _⟩ := h
    rfl
  · obtain ⟨a, g, rfl, hS, hg, hn, k⟩ := h
    have nd := scWheelLen.nd
    have N := name_nm hg
    obtain ⟨p, Pr⟩ := wper N hn
    have el : (Krcv.wheelOf g).length = p := by rw [wheelOf_name hg, wheelOf_is N Pr, whs_len]
    rw [el] at k
    refine ⟨_, pss_cons (ps_set (i := 1) nd rfl (.inl rfl) (pe_call GN hr (by rfl) DN.g DN.F.kp DN.b .nil pass0 (pa_cons (pv 0) pa_nil)))
      (pss_cons (ps_set (i := 2) nd rfl (.inl rfl) (pe_call GM hr (by rfl) DM.g DM.F.kp DM.b .nil pass0 (pa_cons (pe_cn Z.SHEARED (by rfl)) (pa_cons (pv 0) pa_nil))))
      (pss_cons (ps_set (i := 3) nd rfl (.inl rfl) pe_int)
      (pss_cons (ps_while PassesOwn.never (pt_cmpR (op_neL (Nat.lt_of_le_of_lt (Nat.add_le_add_left (by decide) _) hr.units)) (pe_call GN hr (by rfl) DN.g DN.F.kp DN.b .nil pass0 (pa_cons (pv 2) pa_nil)) (pv 1) (nomark _))
        (pss_cons (ps_set (i := 2) nd rfl (.inl rfl) (pe_call GM hr (by rfl) DM.g DM.F.kp DM.b .nil pass0 (pa_cons (pe_cn Z.SHEARED (by rfl)) (pa_cons (pv 2) pa_nil))))
        (pss_one (ps_aug (i := 3) nd rfl (.inl rfl) pe_int ip_add))))
      (pss_one (ps_ret (pv 3)))))), ?_⟩
    refine ⟨_, rfl, a, g, rfl, hS, hg, hn, fun H1 q s1 hq => ?_⟩
    refine ⟨_, rfl, a, 0, g, rfl, by omega, hS.same s1, hg.toGl, hn, fun H2 r s2 nr hr2 _ => ?_⟩
    refine while_by (fun σ H' => ∃ (j : Nat) (b : Addr), σ = [some (.ref a), some (.ref q), some (.ref b), some (.int ((j + 1 : Nat) : Int))] ∧ j + 1 ≤ p ∧ Same H H' ∧ H' q = some (.lst (nv (both (name g)))) ∧ SurfAt C H' b (shears (j + 1) g))
      (fun σ _ => p - (intAt σ 3).toNat) ⟨0, r, rfl, Pr.pos, s1.trans s2, s2 _ _ hq, hr2⟩ ?_ ?_
    · rintro σ H' ⟨j, b, rfl, hj, s3, hq3, S3⟩
      have ok := shears_ok hg (j + 1)
      have en := shears_n g (j + 1)
      refine ⟨_, rfl, b, _, rfl, S3, ok, by rw [en]; exact hn, fun H4 y s4 hy => ?_⟩
      refine ⟨_, rfl, y, q, _, _, rfl, rfl, hy, s4 _ _ hq3, _, rfl, ?_⟩
      have key : both (name (shears (j + 1) g)) = both (name g) ↔ wh (name g) (j + 1) = name g := by
        rw [row_inj ok hg en rfl, wh_surf hg]
      by_cases c : wh (name g) (j + 1) = name g
      · refine br_f (decide_eq_false (fun z => z (key.mpr c))) ?_
        have e : j + 1 = p := by
          apply Classical.byContradiction
          intro ne
          exact Pr.not (j + 1) (by omega) (by omega) c
        refine ⟨_, rfl, ?_⟩
        rw [e]
        exact k H4 (s3.trans s4)
      · have hj1 : j + 1 < p := by
          apply Classical.byContradiction
          intro ge
          have : j + 1 = p := by omega
          rw [this] at c
          exact c Pr.back
        refine br_t (decide_eq_true (fun z => c (key.mp z))) ?_
        refine ⟨_, rfl, b, 0, _, rfl, by omega, S3.same s4, ok.toGl, by rw [en]; exact hn, fun H5 z s5 nz S5 _ => ?_⟩
        refine ⟨_, rfl, _, _, rfl, rfl, ?_⟩
        refine ⟨⟨j + 1, z, rfl, hj1, s3.trans (s4.trans s5), s5 _ _ (s4 _ _ hq3), S5⟩, ?_⟩
        show p - (j + 1 + 1) < p - (j + 1)
        omega
    · rintro σ H' Q1 Q2 hQ ⟨v, e1, b, g', e2, e3, e4, e5, e6⟩
      refine ⟨v, e1, b, g', e2, e3, e4, e5, fun H9 p9 s9 h9 => ?_⟩
      obtain ⟨v2, f1, a1, b1, l1, k1, f2, f3, f4, f5, kk, f6, q⟩ := e6 H9 p9 s9 h9
      exact ⟨v2, f1, a1, b1, l1, k1, f2, f3, f4, f5, kk, f6, hQ _ _ q⟩
end
end Sq
set_option Elab.async false
set_option linter.unusedVariables false
set_option maxRecDepth 100000
set_option maxHeartbeats 2000000
namespace Sq
open PySem PySem.Spec PyProof.Rows L2
open PySem.W (listLt)
open Krct (Glued to from_ inverse cycleOf cycles name less)
open Krcv (Node)
/-! ### wheel_lengths -/
abbrev sWheels : Stmt := top 27
theorem scWheels : FnScope ["orbit", "steps", "surface"] ["orbit"] (defScope sWheels) := ⟨rfl, rfl, rfl, by decide +kernel, rfl, by decide +kernel, by decide +kernel⟩
def nmsP (ps : List Node) : List Glued := ps.map fun x => name x.g
theorem nmsP_is (ps : List Node) : nmsP ps = namesN (ps.map nmN) := by
  unfold nmsP namesN; rw [List.map_map]; rfl
theorem nmsP_len (ps : List Node) : (nmsP ps).length = ps.length := by unfold nmsP; rw [List.length_map]
theorem idx_rows {n : Nat} {y : Glued} (hy : Ok y) (ey : y.n = n) : ∀ {ps : List Node}, OkN n ps → (ps.map rowN).idxOf (both (name y)) = (nmsP ps).idxOf (name y)
  | [], _ => rfl
  | x :: ps, h => by
    have ih := idx_rows hy ey (ps := ps) (fun z hz => h z (by simp [hz]))
    have hx := h x (by simp)
    unfold nmsP at ih ⊢
    rw [List.map_cons, List.map_cons, List.idxOf_cons, List.idxOf_cons, ih]
    have : (rowN x == both (name y)) = (name x.g == name y) := by
      rw [Bool.eq_iff_iff, beq_iff_eq, beq_iff_eq]
      exact row_inj hx.1 hy hx.2 ey
    rw [this]
theorem mem_rows {n : Nat} {y : Glued} (hy : Ok y) (ey : y.n = n) {ps : List Node} (h : OkN n ps) : both (name y) ∈ ps.map rowN ↔ name y ∈ nmsP ps := by
  unfold nmsP
  rw [List.mem_map, List.mem_map]
  constructor
  · rintro ⟨x, hx, e⟩
    exact ⟨x, hx, (row_inj (h x hx).1 hy (h x hx).2 ey).mp e⟩
  · rintro ⟨x, hx, e⟩
    exact ⟨x, hx, (row_inj (h x hx).1 hy (h x hx).2 ey).mpr e⟩
def spWheels (CO C : Addr) : Sp := fun vs H Q _ => ∃ (o an as aw : Addr) (n : Nat) (rs ss ws : List Addr) (ps : List Node), vs = [.ref o] ∧ OrbAt CO C n H o an as aw rs ss ws ps ∧ n ≤ 6 ∧ ps.length ≤ 120 ∧ Whl n (nmsP ps) ∧
  ∀ (H' : Hp) (p : Addr), Same H H' → H p = none → H' p = some (.lst (nv (Krcv.wheels (nmsP ps)))) → Q (.ref p) H'
section
variable {P : Program} {w : World} {K : PySem.W.Frag} {mg : Str → Option Value} {base : Heap} {CO fO C fS : Addr} {fdO fdS : FuncData}
theorem ok_wheels {f fN fM fL : Addr} {fd fdN fdM fdL : FuncData} (T : OrbC K mg CO fO fdO) (B : Blt mg) (Z : Nums mg) (D : DefAt K mg "wheel_lengths" sWheels ["orbit"] f fd) (DM : DefAt K mg "moved" sMoved ["move", "surface"] fM fdM) (DN : DefAt K mg "name_of" sName ["surface"] fN fdN) (DL : DefAt K mg "round_lengths" sLengths ["steps"] fL fdL)
    (GM : FnOk P w K mg base CX0 4 fM fdM ["move", "surface"] (spMoved C)) (GN : FnOk P w K mg base CX0 4 fN fdN ["surface"] (spName C)) (GL : FnOk P w K mg base CX0 2 fL fdL ["steps"] spLengths) : FnOk P w K mg base CX0 5 f fd ["orbit"] (spWheels CO C) := by
  refine D.F.ok scWheels (fun vs H Q E h => ?_) (fun cdv A outer s0 H vs Q E hr h => ?_)
  · obtain ⟨o, an, as, aw, n, rs, ss, ws, ps, rfl, _⟩ := h
    rfl
  · obtain ⟨o, an, as, aw, n, rs, ss, ws, ps, rfl, O, hn, hl, W, k⟩ := h
    have nd := scWheels.nd
    refine ⟨_, pss_cons (ps_setLc (i := 1) (own := [("surface", 2)]) (g := gName 2) (tt := tYes) (te := tBM K "list" (rIndexL K) (tFld K (tVar 0) "names") (tCons (tCall (spName C) [] E0 (tCons (tCall (spMoved C) [] E0 (tCons (tC (.int 0)) (tCons (tVar 2) tNil))) tNil)) tNil)) rfl nd rfl rfl (sw_true rfl rfl rfl (by decide +kernel)) (pi_list (pe_fld (pv 0) rfl))
        (blkOk_by (N := ["orbit", "steps", "surface"]) (sc := defScope sWheels) (by decide +kernel)) (fun _ _ _ _ _ => pg_name (i := 2) nd rfl (Or.inl rfl)) (fun _ _ _ _ _ => pts_nil)
        (fun _ _ _ _ _ => pe_bm PySem.F.plainAttrs_list PySem.F.slot_list_index PySem.F.type_list_index (mt_indexL (Nat.lt_of_le_of_lt (Nat.add_le_add_left (by decide) _) hr.units)) (pe_fld (pv 0) rfl)
          (pa_cons (pe_call GN hr (by rfl) DN.g DN.F.kp DN.b .nil pass0 (pa_cons (pe_call GM hr (by rfl) DM.g DM.F.kp DM.b .nil pass0 (pa_cons (pe_cn Z.SHEARED (by rfl)) (pa_cons (pv 2) pa_nil))) pa_nil)) pa_nil)))
      (pss_one (ps_ret (pe_callB cr_sortedI (by rfl) B.sorted (by decide +kernel) (pa_cons (pe_call GL (hr.mono (by decide)) (by rfl) DL.g DL.F.kp DL.b .nil pass0 (pa_cons (pv 1) pa_nil)) pa_nil)))), ?_⟩
    obtain ⟨dx, hi⟩ := O.ins
    refine ⟨_, rfl, o, CO, dx, _, _, rfl, hi, T.cl, T.nS, oF_s _ _ _, as, rfl, ⟨_, SqL.of O.hs⟩, fun q hq => ?_⟩
    refine lc_list (K := K) (a := as) (xs := ss.map V.ref) (fun i H' => Same H H' ∧ H' q = some (.lst (nv ((stepsOf (nmsP ps)).take i)))) ⟨same_upd hq, upd_same⟩ (fun i H' _ ⟨s1, _⟩ => SqL.of (s1 _ _ O.hs)) ?_ ?_
    · rintro i v H' hiv ⟨s1, hq1⟩
      rw [List.getElem?_map] at hiv
      cases er : ss[i]? with
      | none => rw [er] at hiv; cases hiv
      | some r =>
        rw [er] at hiv
        have ev : V.ref r = v := Option.some.inj hiv
        subst ev
        have hips : i < ps.length := by rw [← O.len_s]; exact (List.getElem?_eq_some_iff.mp er).1
        obtain ⟨y, hy⟩ : ∃ y, ps[i]? = some y := ⟨_, List.getElem?_eq_getElem hips⟩
        have hym := List.mem_of_getElem? hy
        have oky := O.ok y hym
        have Sy : SurfAt C H r y.g := O.rs_.2 i r y.g er (by rw [List.getElem?_map, hy]; rfl)
        refine ⟨rfl, yes_then ?_⟩
        refine ⟨_, rfl, o, CO, dx, _, _, rfl, s1 _ _ hi, T.cl, T.nN, oF_n _ _ _, .inl ⟨rfl, _, SqL.of (s1 _ _ O.hn)⟩, ?_⟩
        refine ⟨_, rfl, r, 0, y.g, rfl, by omega, Sy.same s1, oky.1.toGl, by rw [oky.2]; exact hn, fun H2 p s2 np S2 _ => ?_⟩
        have okm : Ok (mv 0 y.g) := mv_ok oky.1
        have enm : (mv 0 y.g).n = n := by rw [mv_n]; exact oky.2
        refine ⟨p, mv 0 y.g, rfl, S2, okm, by rw [enm]; exact hn, fun H3 z s3 hz => ?_⟩
        have s13 := s1.trans (s2.trans s3)
        have enx : name (mv 0 y.g) = nx 0 (name y.g) := (name_mv oky.1).symm
        have hmem : name (mv 0 y.g) ∈ nmsP ps := by
          rw [enx]
          exact W.cl _ (List.mem_map.mpr ⟨y, hym, rfl⟩)
        refine ⟨an, z, rs, ps.map rowN, both (name (mv 0 y.g)), rfl, rfl, SqL.of (s13 _ _ O.hn), O.rn.kp (.of s13), hz, (mem_rows okm enm O.ok).mpr hmem, by rw [List.length_map]; omega, ?_⟩
        rw [idx_rows okm enm O.ok, enx]
        refine ⟨_, s3 _ _ (s2 _ _ hq1), ?_, same_set hq s13, ?_⟩
        · rw [nv_len, List.length_take, stepsOf_len, nmsP_len]; exact lt_size (by omega)
        · rw [upd_same]
          have e3 : (stepsOf (nmsP ps))[i]? = some ((nmsP ps).idxOf (nx 0 (name y.g))) := by
            unfold stepsOf
            rw [List.getElem?_map]
            have : (nmsP ps)[i]? = some (name y.g) := by unfold nmsP; rw [List.getElem?_map, hy]; rfl
            rw [this]; rfl
          rw [List.take_add_one, e3, nv_append]; rfl
    · rintro H' ⟨s1, hq1⟩
      rw [List.length_map, List.take_of_length_le (by rw [stepsOf_len, nmsP_len, O.len_s]; exact Nat.le_refl _)] at hq1
      refine ⟨_, rfl, q, (nmsP ps).length, _, rfl, hq1, W.prm, by rw [nmsP_len]; omega, fun H2 p s2 np hp => ?_⟩
      refine ⟨p, IntL ((cycles (nmsP ps).length (to (stepsOf (nmsP ps)))).map List.length), rfl, SqL.of (by rw [← nv_IntL]; exact hp), fun ns z pm st hz => ?_⟩
      have s12 := s1.trans s2
      refine k _ z (s12.trans (same_upd hz)) (s12.free hz) ?_
      rw [upd_same, W.wheels hn, nv_IntL]
      have := sorted_is (l := (cycles (nmsP ps).length (to (stepsOf (nmsP ps)))).map List.length) pm st
      rw [this]; rfl
end
end Sq
set_option Elab.async false
set_option linter.unusedVariables false
set_option maxRecDepth 100000
set_option maxHeartbeats 2000000
namespace Sq
open PySem PySem.Spec PyProof.Rows L2
open PySem.W (listLt DatumOrd minOf)
open Krct (Glued to from_ inverse cycleOf cycles name less)
open Krcv (Node)
/-! ### what came, by the specification -/
theorem Came.len {g : Glued} {ps : List Node} {T : Nat} (h : Came g ps T) : (bfs (name g) T).length = ps.length := by rw [← h.is, List.length_map]
theorem Came.some_ {g : Glued} {ps : List Node} {T : Nat} (h : Came g ps T) (hl : ps.length ≤ 120) : Krcv.orbit g = some (nmsP ps) := by
  have e := h.len
  rw [orbit_is (T := T) (h.all.resolve_right (by omega)) (by omega), nmsP_is, h.is]
theorem Came.none_ {g : Glued} {ps : List Node} {T : Nat} (h : Came g ps T) (hl : 120 < ps.length) : Krcv.orbit g = none :=
  orbit_many (T := T) (by rw [h.len]; exact hl)
theorem Came.way_ {g t : Glued} {ps : List Node} {T : Nat} (h : Came g ps T) (hl : ps.length ≤ 120) (ht : name t ∈ nmsP ps) : Krcv.way g t = (ps[(nmsP ps).idxOf (name t)]?).map Node.way := by
  have e := h.len
  have := way_is (g := g) (t := t) (T := T) (h.all.resolve_right (by omega)) (by omega) (by rw [← h.is, ← nmsP_is]; exact ht)
  rw [this, ← h.is, ← nmsP_is, List.getElem?_map]
  cases ps[(nmsP ps).idxOf (name t)]? <;> rfl
theorem Came.whl {g : Glued} {ps : List Node} {T : Nat} (hg : Ok g) (h : Came g ps T) (hl : ps.length ≤ 120) : Whl g.n (nmsP ps) := by
  have e := h.some_ hl
  rcases orbit_ok g with ⟨l, e1, nd, hm, _⟩ | ⟨e1, _⟩
  · rw [e] at e1
    cases e1
    exact ⟨fun x hx => ((hm x).mp hx).nm (name_nm hg), nd, fun x hx => (hm _).mpr (.step 0 ((hm x).mp hx) (by omega))⟩
  · rw [e] at e1; cases e1
/-! ### a new list is told, nothing is changed -/
def Tells (H : Hp) (ans : List Int) (Q : VK) : Prop := ∀ (H' : Hp) (p : Addr), Same H H' → H p = none → H' p = some (.lst (zv ans)) → Q (.ref p) H'
theorem Tells.say {H H1 : Hp} {p : Addr} {z : Int} {Q : VK} (k : Tells H [z] Q) (s : Same H H1) (hp : H1 p = none) : Q (.ref p) (upd H1 p (.lst [.int z])) :=
  k _ p (s.trans (same_upd hp)) (s.free hp) upd_same
theorem nv_zv (l : List Nat) : nv l = zv (IntL l) := nv_IntL l
theorem Tells.list {H H1 H2 : Hp} {p : Addr} {l : List Nat} {Q : VK} (k : Tells H ((l.length : Int) :: IntL l) Q) (s : Same H H1) (s2 : Same H1 H2) (np : H1 p = none) (hp : H2 p = some (.lst (nv (l.length :: l)))) : Q (.ref p) H2 :=
  k _ p (s.trans s2) (s.free np) (by rw [hp, nv_zv]; rfl)
/-! ### tell_if_fixed -/
abbrev sFixed : Stmt := top 63
theorem scFixed : FnScope ["surface", "moves"] ["surface", "moves"] (defScope sFixed) := ⟨rfl, rfl, rfl, by decide +kernel, rfl, by decide +kernel, by decide +kernel⟩
def fixAns (g : Glued) (l : List Nat) : List Int := if Krcv.moveOk l then [if Krct.same (Krcv.apply g l) g then 1 else 0] else [-22]
def spFixed (C : Addr) : Sp := fun vs H Q _ => ∃ (a b : Addr) (g : Glued) (l : List Nat), vs = [.ref a, .ref b] ∧ SurfAt C H a g ∧ Ok g ∧ g.n ≤ 6 ∧ H b = some (.lst (nv l)) ∧ Tells H (fixAns g l) Q
/-! ### tell_of_orbit -/
abbrev sTellOrb : Stmt := top 64
theorem scTellOrb : FnScope ["surface", "number", "orbit"] ["surface", "number"] (defScope sTellOrb) := ⟨rfl, rfl, rfl, by decide +kernel, rfl, by decide +kernel, by decide +kernel⟩
def leastAns (l : List Glued) : List Int := match Krcv.least l with
  | none => [-33]
  | some h => ((both h).length : Int) :: IntL (both h)
def orbAns (g : Glued) (x : Nat) : List Int := match Krcv.orbit g with
  | none => [-75]
  | some l => if x = 10 then ((Krcv.wheels l).length : Int) :: IntL (Krcv.wheels l) else if x = 14 then leastAns l else if x = 15 then [((l.filter fun h => less h (name g)).length : Int)] else [(l.length : Int)]
def spTellOrb (C : Addr) : Sp := fun vs H Q _ => ∃ (a : Addr) (x : Nat) (g : Glued), vs = [.ref a, .int (x : Int)] ∧ (x = 9 ∨ x = 10 ∨ x = 14 ∨ x = 15) ∧ SurfAt C H a g ∧ Ok g ∧ g.n ≤ 6 ∧ Tells H (orbAns g x) Q
theorem wheels_len {n : Nat} {L : List Glued} (W : Whl n L) (hn : n ≤ 6) : (Krcv.wheels L).length ≤ L.length := by
  rw [W.wheels hn, List.length_mergeSort, List.length_map]
  exact cycles_le W.inj
theorem okN_tab {n : Nat} {ps : List Node} (h : OkN n ps) : ∀ t ∈ nmsP ps, Tab n t := fun t ht => by
  obtain ⟨x, hx, rfl⟩ := List.mem_map.mp ht
  have := name_tab (h x hx).1
  rw [(h x hx).2] at this
  exact this
theorem rows_names (ps : List Node) : (ps.map rowN).map IntL = (nmsP ps).map fun t => IntL (both t) := by
  unfold nmsP; rw [List.map_map, List.map_map]; rfl
theorem less_count {n : Nat} {x : Node} (ox : Ok x.g) (ex : x.g.n = n) : ∀ {ps : List Node}, OkN n ps → ((ps.map rowN).filter (ltRow (rowN x))).length = ((nmsP ps).filter fun h => less h (name x.g)).length
  | [], _ => rfl
  | y :: ps, h => by
    have ih := less_count ox ex (ps := ps) (fun z hz => h z (by simp [hz]))
    have oy := h y (by simp)
    have e : ltRow (rowN x) (rowN y) = less (name y.g) (name x.g) := by
      have t1 := name_tab oy.1
      rw [oy.2] at t1
      have t2 := name_tab ox
      rw [ex] at t2
      exact lt_less t1 t2
    unfold nmsP at ih ⊢
    rw [List.map_cons, List.map_cons, List.filter_cons, List.filter_cons, e]
    cases less (name y.g) (name x.g)
    · exact ih
    · show (_ :: _).length = (_ :: _).length
      rw [List.length_cons, List.length_cons, ih]
section
variable {P : Program} {w : World} {K : PySem.W.Frag} {mg : Str → Option Value} {base : Heap} {CO fO C fS : Addr} {fdO fdS : FuncData}
theorem ok_fixed {f f1 f2 f3 : Addr} {fd fd1 fd2 fd3 : FuncData} (Z : Nums mg) (D : DefAt K mg "tell_if_fixed" sFixed ["surface", "moves"] f fd) (D1 : DefAt K mg "are_moves" sAre ["row"] f1 fd1) (D2 : DefAt K mg "all_moved" sAllMoved ["moves", "surface"] f2 fd2) (D3 : DefAt K mg "same_but_for_names" sSame ["surface", "other"] f3 fd3)
    (G1 : FnOk P w K mg base CX0 1 f1 fd1 ["row"] spAre) (G2 : FnOk P w K mg base CX0 5 f2 fd2 ["moves", "surface"] (spAllMoved C)) (G3 : FnOk P w K mg base CX0 5 f3 fd3 ["surface", "other"] (spSame C)) : FnOk P w K mg base CX0 6 f fd ["surface", "moves"] (spFixed C) := by
  refine D.F.ok scFixed (fun vs H Q E h => ?_) (fun cdv A outer s0 H vs Q E hr h => ?_)
  · obtain ⟨a, b, g, l, rfl, _⟩ := h
    rfl
  · obtain ⟨a, b, g, l, rfl, hS, hg, hn, hb, q⟩ := h
    refine ⟨_, pss_cons (ps_if (pt_not (pt_val (pe_call G1 (hr.mono (by decide)) (by rfl) D1.g D1.F.kp D1.b .nil pass0 (pa_cons (pv 1) pa_nil)))) (pss_one (ps_ret (pe_lst (pa_cons (pe_cn Z.NOT_RIGHT (by rfl)) pa_nil)))) pss_nil)
      (pss_one (ps_ret (pe_lst (pa_cons (pe_ifExp (pt_val (pe_call G3 hr (by rfl) D3.g D3.F.kp D3.b .nil pass0 (pa_cons (pv 0) (pa_cons (pe_call G2 hr (by rfl) D2.g D2.F.kp D2.b .nil pass0 (pa_cons (pv 1) (pa_cons (pv 0) pa_nil))) pa_nil)))) pe_int pe_int) pa_nil)))), ?_⟩
    refine ⟨_, rfl, b, l, rfl, hb, fun H1 s1 => ⟨_, rfl, ?_⟩⟩
    unfold fixAns at q
    cases c : Krcv.moveOk l with
    | false =>
      rw [c] at q
      exact br_t rfl ⟨le_size (by simp), fun p hp => q.say s1 hp⟩
    | true =>
      rw [c] at q
      refine br_f rfl ?_
      refine ⟨_, rfl, _, rfl, _, rfl, b, a, l, g, rfl, s1 _ _ hb, moveOk_lt c, hS.same s1, hg, hn, fun H2 z s2 J _ => ?_⟩
      obtain ⟨o1, o2⟩ := apply_gl hg l
      refine ⟨a, z, g, _, rfl, hS.same (s1.trans s2), J, hg, o1, o2, hn, fun H3 s3 => ⟨_, rfl, ?_⟩⟩
      have s13 := s1.trans (s2.trans s3)
      cases c2 : Krct.same (Krcv.apply g l) g with
      | true =>
        rw [c2] at q
        exact iteT ⟨le_size (by simp), fun p hp => q.say s13 hp⟩
      | false =>
        rw [c2] at q
        exact iteF ⟨le_size (by simp), fun p hp => q.say s13 hp⟩
theorem ok_tellOrb {f f1 f2 f3 f4 f5 : Addr} {fd fd1 fd2 fd3 fd4 fd5 : FuncData} (T : OrbC K mg CO fO fdO) (B : Blt mg) (Z : Nums mg) (D : DefAt K mg "tell_of_orbit" sTellOrb ["surface", "number"] f fd)
    (D1 : DefAt K mg "orbit_of" sOrbitOf ["surface"] f1 fd1) (D2 : DefAt K mg "has_too_many" sTooMany ["orbit"] f2 fd2) (D3 : DefAt K mg "counted" sCounted ["numbers"] f3 fd3) (D4 : DefAt K mg "wheel_lengths" sWheels ["orbit"] f4 fd4) (D5 : DefAt K mg "count_less" sLess ["orbit"] f5 fd5)
    (G1 : FnOk P w K mg base CX0 7 f1 fd1 ["surface"] (spOrbitOf CO C)) (G2 : FnOk P w K mg base CX0 1 f2 fd2 ["orbit"] (spTooMany CO C)) (G3 : FnOk P w K mg base CX0 1 f3 fd3 ["numbers"] spCounted) (G4 : FnOk P w K mg base CX0 5 f4 fd4 ["orbit"] (spWheels CO C)) (G5 : FnOk P w K mg base CX0 1 f5 fd5 ["orbit"] (spLess CO C)) :
    FnOk P w K mg base CX0 8 f fd ["surface", "number"] (spTellOrb C) := by
  refine D.F.ok scTellOrb (fun vs H Q E h => ?_) (fun cdv A outer s0 H vs Q E hr h => ?_)
  · obtain ⟨a, x, g, rfl, _⟩ := h
    rfl
  · obtain ⟨a, x, g, rfl, hx, hS, hg, hn, q⟩ := h
    have nd := scTellOrb.nd
    have hr1 := hr.mono (by decide : 1 ≤ 7)
    have hr5 := hr.mono (by decide : 5 ≤ 7)
    refine ⟨_, pss_cons (ps_set (i := 2) nd rfl (.inl rfl) (pe_call G1 hr (by rfl) D1.g D1.F.kp D1.b .nil pass0 (pa_cons (pv 0) pa_nil)))
      (pss_cons (ps_if (pt_val (pe_call G2 hr1 (by rfl) D2.g D2.F.kp D2.b .nil pass0 (pa_cons (pv 2) pa_nil))) (pss_one (ps_ret (pe_lst (pa_cons (pe_cn Z.TOO_MANY (by rfl)) pa_nil)))) pss_nil)
      (pss_cons (ps_if (pt_cmpR op_eq (pv 1) (pe_cn Z.WHEELS (by rfl)) (nomark _)) (pss_one (ps_ret (pe_call G3 hr1 (by rfl) D3.g D3.F.kp D3.b .nil pass0 (pa_cons (pe_call G4 hr5 (by rfl) D4.g D4.F.kp D4.b .nil pass0 (pa_cons (pv 2) pa_nil)) pa_nil)))) pss_nil)
      (pss_cons (ps_if (pt_cmpR op_eq (pv 1) (pe_cn Z.LEAST (by rfl)) (nomark _)) (pss_one (ps_ret (pe_call G3 hr1 (by rfl) D3.g D3.F.kp D3.b .nil pass0 (pa_cons (pe_callB (cr_minL rfl (Nat.lt_of_le_of_lt (Nat.add_le_add_left (by decide) _) hr.units)) (by rfl) B.min (by decide +kernel) (pa_cons (pe_fld (pv 2) rfl) pa_nil)) pa_nil)))) pss_nil)
      (pss_cons (ps_if (pt_cmpR op_eq (pv 1) (pe_cn Z.PLACE (by rfl)) (nomark _)) (pss_one (ps_ret (pe_lst (pa_cons (pe_call G5 hr1 (by rfl) D5.g D5.F.kp D5.b .nil pass0 (pa_cons (pv 2) pa_nil)) pa_nil)))) pss_nil)
      (pss_one (ps_ret (pe_lst (pa_cons (pe_callB call_len_seq (by rfl) B.len PySem.boot_len (pa_cons (pe_fld (pv 2) rfl) pa_nil)) pa_nil)))))))), ?_⟩
    refine ⟨_, rfl, a, g, rfl, hS, hg, hn, fun H1 o an as aw rs ss ws ps T1 s1 O1 Cm => ?_⟩
    refine ⟨_, rfl, o, an, as, aw, g.n, rs, ss, ws, ps, rfl, O1, fun H2 s2 => ⟨_, rfl, ?_⟩⟩
    have O2 := O1.same s2
    have s12 := s1.trans s2
    obtain ⟨dx, hi⟩ := O2.ins
    unfold orbAns at q
    by_cases c : 120 < ps.length
    · refine br_t (decide_eq_true c) ?_
      rw [Cm.none_ c] at q
      exact ⟨le_size (by simp), fun p hp => q.say s12 hp⟩
    · refine br_f (decide_eq_false c) ?_
      have hl : ps.length ≤ 120 := by omega
      rw [Cm.some_ hl] at q
      have W := Cm.whl hg hl
      refine ⟨_, rfl, rfl, _, rfl, ?_⟩
      rcases hx with rfl | rfl | rfl | rfl
      · refine br_f (by decide) ?_
        iterate 2 refine ⟨_, rfl, rfl, _, rfl, br_f (by decide) ?_⟩
        refine ⟨_, rfl, o, CO, dx, _, _, rfl, hi, T.cl, T.nN, oF_n _ _ _, an, _, rfl, .inl (SqL.of O2.hn), le_size (by simp), fun p hp => ?_⟩
        have q' : Tells H [((nmsP ps).length : Int)] Q := q
        rw [List.length_map, O2.len_n]
        rw [nmsP_len] at q'
        exact q'.say s12 hp
      · refine br_t (by decide) ?_
        refine ⟨_, rfl, o, an, as, aw, g.n, rs, ss, ws, ps, rfl, O2, hn, hl, W, fun H3 p s3 np hp => ?_⟩
        have q' : Tells H (((Krcv.wheels (nmsP ps)).length : Int) :: IntL (Krcv.wheels (nmsP ps))) Q := q
        refine ⟨p, _, rfl, hp, by have := wheels_len W hn; rw [nmsP_len] at this; omega, fun H4 z s4 nz hz => ?_⟩
        exact q'.list (s12.trans s3) s4 nz hz
      · refine br_f (by decide) ?_
        refine ⟨_, rfl, rfl, _, rfl, br_t (by decide) ?_⟩
        have q' : Tells H (leastAns (nmsP ps)) Q := q
        have okps := O2.ok
        have R2 := O2.rn
        cases ps with
        | nil => exact absurd rfl O2.ne
        | cons y ps =>
          refine ⟨_, rfl, o, CO, dx, _, _, rfl, hi, T.cl, T.nN, oF_n _ _ _, an, rs, rowN y, ps.map rowN, rfl, SqL.of O2.hn, R2, fun i r l hi2 hl2 e => ?_⟩
          have tb := okN_tab okps
          have ty : Tab g.n (name y.g) := tb _ (List.mem_map.mpr ⟨y, by simp, rfl⟩)
          have tps : ∀ t ∈ nmsP ps, Tab g.n t := fun t ht => tb t (by
            obtain ⟨z, hz, rfl⟩ := List.mem_map.mp ht
            exact List.mem_map.mpr ⟨z, by simp [hz], rfl⟩)
          have e2 : IntL l = IntL (both ((nmsP ps).foldl keep (name y.g))) := by
            rw [e, rows_names]
            exact minOf_keep (nmsP ps) (name y.g) ty tps
          have e3 := IntL_inj e2
          have hrow := R2.2 i r l hi2 hl2
          have el : leastAns (nmsP (y :: ps)) = ((both ((nmsP ps).foldl keep (name y.g))).length : Int) :: IntL (both ((nmsP ps).foldl keep (name y.g))) := by
            unfold leastAns
            rw [show nmsP (y :: ps) = name y.g :: nmsP ps from rfl, least_cons]
          rw [el, ← e3] at q'
          have tl : Tab g.n ((nmsP ps).foldl keep (name y.g)) := by
            rcases (fold_keep (nmsP ps) (name y.g) ty tps).1 with e | e
            · rw [e]; exact ty
            · exact tps _ e
          refine ⟨r, l, rfl, hrow, ?_, fun H4 z s4 nz hz => q'.list s12 s4 nz hz⟩
          rw [e3]
          unfold both
          rw [List.length_append, tl.e, tl.nn]; omega
      · refine br_f (by decide) ?_
        refine ⟨_, rfl, rfl, _, rfl, br_f (by decide) ?_⟩
        refine ⟨_, rfl, rfl, _, rfl, br_t (by decide) ?_⟩
        have q' : Tells H [(((nmsP ps).filter fun h => less h (name g)).length : Int)] Q := q
        refine ⟨_, rfl, o, an, as, aw, g.n, rs, ss, ws, ps, ⟨g, []⟩, rfl, O2, Cm.first, by omega, fun H3 s3 => ?_⟩
        have e := less_count (x := ⟨g, []⟩) hg rfl O2.ok
        rw [e]
        exact ⟨le_size (by simp), fun p hp => q'.say (s12.trans s3) hp⟩
end
end Sq
set_option Elab.async false
set_option linter.unusedVariables false
set_option maxRecDepth 100000
set_option maxHeartbeats 2000000
namespace Sq
open PySem PySem.Spec PyProof.Rows L2
open Krct (Glued to from_ inverse cycleOf cycles name less)
open Krcv (Node)
/-! ### tell_of_another -/
abbrev sAnother : Stmt := top 65
theorem scAnother : FnScope ["surface", "number", "east", "north", "refusal", "orbit", "name"] ["surface", "number", "east", "north"] (defScope sAnother) := ⟨rfl, rfl, rfl, by decide +kernel, rfl, by decide +kernel, by decide +kernel⟩
def wayAns (g t : Glued) : List Int := match Krcv.way g t with
  | none => [-34]
  | some w => ((w.length : Nat) : Int) :: IntL w
def otherAns (g : Glued) (x : Nat) (l k : List Nat) : List Int := if refusal g.n l k = 0 then (match Krcv.orbit g with
  | none => [-75]
  | some o => if x = 13 then [if o.contains (name ⟨g.n, l, k⟩) then 1 else 0] else if !o.contains (name ⟨g.n, l, k⟩) then [-34] else wayAns g ⟨g.n, l, k⟩) else [refusal g.n l k]
def spAnother (C : Addr) : Sp := fun vs H Q _ => ∃ (a b c : Addr) (x : Nat) (g : Glued) (l k : List Nat), vs = [.ref a, .int (x : Int), .ref b, .ref c] ∧ (x = 12 ∨ x = 13) ∧ SurfAt C H a g ∧ Ok g ∧ g.n ≤ 6 ∧ H b = some (.lst (nv l)) ∧ H c = some (.lst (nv k)) ∧ Tells H (otherAns g x l k) Q
section
variable {P : Program} {w : World} {K : PySem.W.Frag} {mg : Str → Option Value} {base : Heap} {CO fO C fS : Addr} {fdO fdS : FuncData}
theorem ok_another {f f0 f1 f2 f3 f4 : Addr} {fd fd0 fd1 fd2 fd3 fd4 : FuncData} (TS : SurfC K mg C fS fdS) (T : OrbC K mg CO fO fdO) (B : Blt mg) (Z : Nums mg) (D : DefAt K mg "tell_of_another" sAnother ["surface", "number", "east", "north"] f fd)
    (D0 : DefAt K mg "refusal_of_tables" sRefusal ["east", "north", "count"] f0 fd0) (D1 : DefAt K mg "orbit_of" sOrbitOf ["surface"] f1 fd1) (D2 : DefAt K mg "has_too_many" sTooMany ["orbit"] f2 fd2) (D3 : DefAt K mg "counted" sCounted ["numbers"] f3 fd3) (D4 : DefAt K mg "name_of" sName ["surface"] f4 fd4)
    (GS : FnOk P w K mg base CX0 2 fS fdS ["self", "east", "north"] (spSurf C)) (G0 : FnOk P w K mg base CX0 4 f0 fd0 ["east", "north", "count"] spRefusal) (G1 : FnOk P w K mg base CX0 7 f1 fd1 ["surface"] (spOrbitOf CO C)) (G2 : FnOk P w K mg base CX0 1 f2 fd2 ["orbit"] (spTooMany CO C)) (G3 : FnOk P w K mg base CX0 1 f3 fd3 ["numbers"] spCounted) (G4 : FnOk P w K mg base CX0 4 f4 fd4 ["surface"] (spName C)) :
    FnOk P w K mg base CX0 8 f fd ["surface", "number", "east", "north"] (spAnother C) := by
  refine D.F.ok scAnother (fun vs H Q E h => ?_) (fun cdv A outer s0 H vs Q E hr h => ?_)
  · obtain ⟨a, b, c, x, g, l, k, rfl, _⟩ := h
    rfl
  · obtain ⟨a, b, c, x, g, l, k, rfl, hx, hS, hg, hn, hb, hc, q⟩ := h
    have nd := scAnother.nd
    have hr1 := hr.mono (by decide : 1 ≤ 7)
    have hr3 := hr.mono (by decide : 3 ≤ 7)
    have hr4 := hr.mono (by decide : 4 ≤ 7)
    refine ⟨_, pss_cons (ps_set (i := 4) nd rfl (.inl rfl) (pe_call G0 hr4 (by rfl) D0.g D0.F.kp D0.b .nil pass0 (pa_cons (pv 2) (pa_cons (pv 3) (pa_cons (pe_callB call_len_seq (by rfl) B.len PySem.boot_len (pa_cons (pe_fld (pv 0) rfl) pa_nil)) pa_nil)))))
      (pss_cons (ps_if (pt_cmpR op_ne (pv 4) pe_int (nomark _)) (pss_one (ps_ret (pe_lst (pa_cons (pv 4) pa_nil)))) pss_nil)
      (pss_cons (ps_set (i := 5) nd rfl (.inl rfl) (pe_call G1 hr (by rfl) D1.g D1.F.kp D1.b .nil pass0 (pa_cons (pv 0) pa_nil)))
      (pss_cons (ps_if (pt_val (pe_call G2 hr1 (by rfl) D2.g D2.F.kp D2.b .nil pass0 (pa_cons (pv 5) pa_nil))) (pss_one (ps_ret (pe_lst (pa_cons (pe_cn Z.TOO_MANY (by rfl)) pa_nil)))) pss_nil)
      (pss_cons (ps_set (i := 6) nd rfl (.inl rfl) (pe_call G4 hr4 (by rfl) D4.g D4.F.kp D4.b .nil pass0 (pa_cons (pe_make TS.M GS hr3 (by rfl) TS.g TS.b .nil pass0 (pa_cons (pv 2) (pa_cons (pv 3) pa_nil))) pa_nil)))
      (pss_cons (ps_if (pt_cmpR op_eq (pv 1) (pe_cn Z.REACHES (by rfl)) (nomark _)) (pss_one (ps_ret (pe_lst (pa_cons (pe_ifExp (pt_cmpR (op_inL (Nat.lt_of_le_of_lt (Nat.add_le_add_left (by decide) _) hr.units)) (pv 6) (pe_fld (pv 5) rfl) (by rfl)) pe_int pe_int) pa_nil)))) pss_nil)
      (pss_cons (ps_if (pt_cmpR (op_notInL (Nat.lt_of_le_of_lt (Nat.add_le_add_left (by decide) _) hr.units)) (pv 6) (pe_fld (pv 5) rfl) (by rfl)) (pss_one (ps_ret (pe_lst (pa_cons (pe_cn Z.NO_WAY (by rfl)) pa_nil)))) pss_nil)
      (pss_one (ps_ret (pe_call G3 hr1 (by rfl) D3.g D3.F.kp D3.b .nil pass0 (pa_cons (pe_ix ix_list (pe_fld (pv 5) rfl) (pe_bm PySem.F.plainAttrs_list PySem.F.slot_list_index PySem.F.type_list_index (mt_indexL (Nat.lt_of_le_of_lt (Nat.add_le_add_left (by decide) _) hr.units)) (pe_fld (pv 5) rfl) (pa_cons (pv 6) pa_nil)) (fun _ _ => rfl)) pa_nil)))))))))), ?_⟩
    obtain ⟨dx0, ae, an0, aw0, as0, q1, q2, q3, q4, q5⟩ := id hS
    refine ⟨_, rfl, _, rfl, _, rfl, a, C, dx0, _, _, rfl, q1, TS.cl, TS.nE, sf_e _ _ _ _, ae, _, rfl, .inl (SqL.of q2), b, c, g.n, l, k, (by rw [nv_len, hg.e.len]; rfl), hb, hc, hg.pos, hn, fun H1 s1 => ?_⟩
    refine ⟨_, rfl, rfl, _, rfl, ?_⟩
    unfold otherAns at q
    by_cases cr : refusal g.n l k = 0
    · refine br_f (by rw [cr]; rfl) ?_
      rw [if_pos cr] at q
      have ok := refusal_zero hg.pos cr
      refine ⟨_, rfl, a, g, rfl, hS.same s1, hg, hn, fun H2 o an as aw rs ss ws ps T1 s2 O2 Cm => ?_⟩
      refine ⟨_, rfl, o, an, as, aw, g.n, rs, ss, ws, ps, rfl, O2, fun H3 s3 => ⟨_, rfl, ?_⟩⟩
      have s13 := s1.trans (s2.trans s3)
      by_cases c1 : 120 < ps.length
      · refine br_t (decide_eq_true c1) ?_
        rw [Cm.none_ c1] at q
        exact ⟨le_size (by simp), fun p hp => q.say s13 hp⟩
      · refine br_f (decide_eq_false c1) ?_
        have hl : ps.length ≤ 120 := by omega
        rw [Cm.some_ hl] at q
        refine ⟨_, rfl, _, rfl, fun z dz nz ndz nez => ?_⟩
        have old : Same H3 (upd (upd H3 dz (.own z)) z (.ins C dz [])) := fun y u h => by
          rw [upd_ne (ne_of_none h nz), upd_ne (ne_of_none h ndz)]; exact h
        refine ⟨z, dz, b, c, g.n, l, k, rfl, upd_same, old _ _ (s13 _ _ hb), old _ _ (s13 _ _ hc), ok.e, ok.n, hn, fun H4 J kp _ => ⟨rfl, ?_⟩⟩
        have s4 : Same H3 H4 := Same.made nz ndz kp
        refine ⟨z, _, rfl, J, ok, hn, fun H5 p s5 hp => ?_⟩
        have s15 := s13.trans (s4.trans s5)
        have O5 := O2.same (s3.trans (s4.trans s5))
        obtain ⟨dx, hi⟩ := O5.ins
        have key : both (name ⟨g.n, l, k⟩) ∈ ps.map rowN ↔ name ⟨g.n, l, k⟩ ∈ nmsP ps := mem_rows ok rfl O5.ok
        refine ⟨_, rfl, rfl, _, rfl, ?_⟩
        rcases hx with rfl | rfl
        · refine br_f (by decide) ?_
          refine ⟨_, rfl, _, rfl, o, CO, dx, _, _, rfl, hi, T.cl, T.nN, oF_n _ _ _, p, an, rs, ps.map rowN, both (name ⟨g.n, l, k⟩), rfl, rfl, SqL.of O5.hn, O5.rn, hp, _, rfl, ?_⟩
          have q' : Tells H (if (!(nmsP ps).contains (name ⟨g.n, l, k⟩)) = true then [-34] else wayAns g ⟨g.n, l, k⟩) Q := q
          by_cases c2 : name ⟨g.n, l, k⟩ ∈ nmsP ps
          · refine br_f (decide_eq_false (fun zz => zz (key.mpr c2))) ?_
            rw [List.contains_iff_mem.mpr c2] at q'
            have q2 : Tells H (wayAns g ⟨g.n, l, k⟩) Q := q'
            have hidx : (nmsP ps).idxOf (name ⟨g.n, l, k⟩) < ps.length := by
              rw [← nmsP_len ps]; exact List.idxOf_lt_length_iff.mpr c2
            obtain ⟨y, hy⟩ : ∃ y, ps[(nmsP ps).idxOf (name ⟨g.n, l, k⟩)]? = some y := ⟨_, List.getElem?_eq_getElem hidx⟩
            have ew : wayAns g ⟨g.n, l, k⟩ = ((y.way.length : Nat) : Int) :: IntL y.way := by
              unfold wayAns
              rw [Cm.way_ hl c2, hy]; rfl
            rw [ew] at q2
            obtain ⟨wx, hwx⟩ : ∃ s, ws[(nmsP ps).idxOf (name ⟨g.n, l, k⟩)]? = some s := ⟨_, List.getElem?_eq_getElem (by rw [O5.len_w]; exact hidx)⟩
            have hwx5 : H5 wx = some (.lst (nv y.way)) := O5.rw_.2 _ wx y.way hwx (by rw [List.getElem?_map, hy]; rfl)
            refine ⟨_, rfl, o, CO, dx, _, _, rfl, hi, T.cl, T.nW, oF_w _ _ _, ?_⟩
            refine ⟨_, rfl, o, CO, dx, _, _, rfl, hi, T.cl, T.nN, oF_n _ _ _, .inl ⟨rfl, _, SqL.of O5.hn⟩, _, rfl, an, p, rs, ps.map rowN, both (name ⟨g.n, l, k⟩), rfl, rfl, SqL.of O5.hn, O5.rn, hp, key.mpr c2, by rw [List.length_map]; omega, ?_⟩
            rw [idx_rows ok rfl O5.ok]
            refine ⟨aw, _, _, V.ref wx, rfl, rfl, SqL.of O5.hw, atI_nat (by rw [List.getElem?_map, hwx]; rfl), ?_⟩
            refine ⟨wx, y.way, rfl, hwx5, by have := Cm.ways y (List.mem_of_getElem? hy); omega, fun H6 u s6 nu hu => ?_⟩
            exact q2.list s15 s6 nu hu
          · refine br_t (decide_eq_true (fun zz => c2 (key.mp zz))) ?_
            have ec : (nmsP ps).contains (name ⟨g.n, l, k⟩) = false := by
              cases e : (nmsP ps).contains (name ⟨g.n, l, k⟩) with
              | false => rfl
              | true => exact absurd (List.contains_iff_mem.mp e) c2
            rw [ec] at q'
            have q2 : Tells H [-34] Q := q'
            exact ⟨le_size (by simp), fun u hu => q2.say s15 hu⟩
        · refine br_t (by decide) ?_
          have q' : Tells H [if (nmsP ps).contains (name ⟨g.n, l, k⟩) = true then 1 else 0] Q := q
          refine ⟨_, rfl, _, rfl, o, CO, dx, _, _, rfl, hi, T.cl, T.nN, oF_n _ _ _, p, an, rs, ps.map rowN, both (name ⟨g.n, l, k⟩), rfl, rfl, SqL.of O5.hn, O5.rn, hp, _, rfl, ?_⟩
          by_cases c2 : name ⟨g.n, l, k⟩ ∈ nmsP ps
          · refine br_t (decide_eq_true (key.mpr c2)) ?_
            rw [List.contains_iff_mem.mpr c2] at q'
            exact ⟨le_size (by simp), fun u hu => q'.say s15 hu⟩
          · refine br_f (decide_eq_false (fun zz => c2 (key.mp zz))) ?_
            have ec : (nmsP ps).contains (name ⟨g.n, l, k⟩) = false := by
              cases e : (nmsP ps).contains (name ⟨g.n, l, k⟩) with
              | false => rfl
              | true => exact absurd (List.contains_iff_mem.mp e) c2
            rw [ec] at q'
            exact ⟨le_size (by simp), fun u hu => q'.say s15 hu⟩
    · refine br_t (by
        have : decide (V.int (refusal g.n l k) = V.int 0) = false := decide_eq_false (fun e => by injection e with e; exact cr e)
        rw [this]; rfl) ?_
      rw [if_neg cr] at q
      exact ⟨_, rfl, le_size (by simp), fun p hp => q.say s1 hp⟩
end
end Sq
set_option Elab.async false
set_option linter.unusedVariables false
set_option maxRecDepth 100000
set_option maxHeartbeats 2000000
namespace Sq
open PySem PySem.Spec PyProof.Rows L2
open Krct (Glued to from_ inverse cycleOf cycles name less)
open Krcv (Node)
/-! ### tell -/
abbrev sTell : Stmt := top 66
theorem scTell : FnScope ["surface", "number"] ["surface", "number"] (defScope sTell) := ⟨rfl, rfl, rfl, by decide +kernel, rfl, by decide +kernel, by decide +kernel⟩
def lstAns (l : List Nat) : List Int := ((l.length : Nat) : Int) :: IntL l
def tellAns (g : Glued) (x : Nat) : List Int :=
  if x = 2 then lstAns (g.corners.map List.length) else if x = 3 then [(g.holes : Int)] else if x = 4 then lstAns ((cycles g.n (to g.east)).map List.length) else if x = 5 then lstAns (both (name g))
  else if x = 6 then [(Krct.selves g : Int)] else if x = 7 then (g.n : Int) :: IntL (both g) else if x = 11 then [((Krcv.wheelOf g).length : Int)] else fixAns g [2, 2]
def spTell (C : Addr) : Sp := fun vs H Q _ => ∃ (a : Addr) (x : Nat) (g : Glued), vs = [.ref a, .int (x : Int)] ∧ (x = 2 ∨ x = 3 ∨ x = 4 ∨ x = 5 ∨ x = 6 ∨ x = 7 ∨ x = 11 ∨ x = 17) ∧ SurfAt C H a g ∧ Ok g ∧ g.n ≤ 6 ∧ Tells H (tellAns g x) Q
/-! ### count_rows -/
abbrev sRows : Stmt := top 67
theorem scRows : FnScope ["number"] ["number"] (defScope sRows) := ⟨rfl, rfl, rfl, by decide +kernel, rfl, by decide +kernel, by decide +kernel⟩
def rowsOf (x : Nat) : Nat := if ([1, 12, 13] : List Nat).contains x then 2 else if ([8, 16] : List Nat).contains x then 1 else 0
def spRows : Sp := fun vs H Q _ => ∃ (x : Nat), vs = [.int (x : Int)] ∧ ∀ (H' : Hp), Same H H' → Q (.int (rowsOf x : Int)) H'
section
variable {P : Program} {w : World} {K : PySem.W.Frag} {mg : Str → Option Value} {base : Heap} {CO fO C fS : Addr} {fdO fdS : FuncData}
theorem ok_rows {f : Addr} {fd : FuncData} (Z : Nums mg) (D : DefAt K mg "count_rows" sRows ["number"] f fd) : FnOk P w K mg base CX0 1 f fd ["number"] spRows := by
  refine D.F.ok scRows (fun vs H Q E h => ?_) (fun cdv A outer s0 H vs Q E hr h => ?_)
  · obtain ⟨x, rfl, _⟩ := h
    rfl
  · obtain ⟨x, rfl, q⟩ := h
    refine ⟨_, pss_cons (ps_if (pt_cmpR op_in_seq (pv 0) (pe_tup (pa_cons (pe_cn Z.GLUE (by rfl)) (pa_cons (pe_cn Z.WAY (by rfl)) (pa_cons (pe_cn Z.REACHES (by rfl)) pa_nil)))) (by rfl)) (pss_one (ps_ret pe_int)) pss_nil)
      (pss_cons (ps_if (pt_cmpR op_in_seq (pv 0) (pe_tup (pa_cons (pe_cn Z.DO (by rfl)) (pa_cons (pe_cn Z.FIXES (by rfl)) pa_nil))) (by rfl)) (pss_one (ps_ret pe_int)) pss_nil)
      (pss_one (ps_ret pe_int))), ?_⟩
    refine ⟨_, rfl, by show 3 ≤ sizeLine; decide, fun t ht => ?_⟩
    refine ⟨t, nv [1, 12, 13], rfl, .inr (SqT.of upd_same), rfl, flat_nv _, _, rfl, ?_⟩
    rw [inV_nv]
    unfold rowsOf at q
    cases c : ([1, 12, 13] : List Nat).contains x with
    | true =>
      rw [c] at q
      exact iteT (q _ (same_upd ht))
    | false =>
      rw [c] at q
      refine iteF ?_
      refine ⟨_, rfl, by show 2 ≤ sizeLine; decide, fun t2 ht2 => ?_⟩
      refine ⟨t2, nv [8, 16], rfl, .inr (SqT.of upd_same), rfl, flat_nv _, _, rfl, ?_⟩
      rw [inV_nv]
      cases c2 : ([8, 16] : List Nat).contains x with
      | true =>
        rw [c2] at q
        exact iteT (q _ ((same_upd ht).trans (same_upd ht2)))
      | false =>
        rw [c2] at q
        exact iteF (q _ ((same_upd ht).trans (same_upd ht2)))
theorem ok_tell {f f1 f2 f3 f4 f5 f6 f7 f8 : Addr} {fd fd1 fd2 fd3 fd4 fd5 fd6 fd7 fd8 : FuncData} (T : SurfC K mg C fS fdS) (B : Blt mg) (Z : Nums mg) (D : DefAt K mg "tell" sTell ["surface", "number"] f fd)
    (D1 : DefAt K mg "counted" sCounted ["numbers"] f1 fd1) (D2 : DefAt K mg "corner_lengths" sCorn ["surface"] f2 fd2) (D3 : DefAt K mg "count_holes" sHoles ["surface"] f3 fd3) (D4 : DefAt K mg "round_lengths" sLengths ["steps"] f4 fd4)
    (D5 : DefAt K mg "name_of" sName ["surface"] f5 fd5) (D6 : DefAt K mg "count_selves" sSelves ["surface"] f6 fd6) (D7 : DefAt K mg "wheel_length" sWheelLen ["surface"] f7 fd7) (D8 : DefAt K mg "tell_if_fixed" sFixed ["surface", "moves"] f8 fd8)
    (G1 : FnOk P w K mg base CX0 1 f1 fd1 ["numbers"] spCounted) (G2 : FnOk P w K mg base CX0 3 f2 fd2 ["surface"] (spCorn C)) (G3 : FnOk P w K mg base CX0 4 f3 fd3 ["surface"] (spHoles C)) (G4 : FnOk P w K mg base CX0 2 f4 fd4 ["steps"] spLengths)
    (G5 : FnOk P w K mg base CX0 4 f5 fd5 ["surface"] (spName C)) (G6 : FnOk P w K mg base CX0 4 f6 fd6 ["surface"] (spSelves C)) (G7 : FnOk P w K mg base CX0 5 f7 fd7 ["surface"] (spWheelLen C)) (G8 : FnOk P w K mg base CX0 6 f8 fd8 ["surface", "moves"] (spFixed C)) :
    FnOk P w K mg base CX0 7 f fd ["surface", "number"] (spTell C) := by
  refine D.F.ok scTell (fun vs H Q E h => ?_) (fun cdv A outer s0 H vs Q E hr h => ?_)
  · obtain ⟨a, x, g, rfl, _⟩ := h
    rfl
  · obtain ⟨a, x, g, rfl, hx, hS, hg, hn, q⟩ := h
    have hr1 := hr.mono (by decide : 1 ≤ 6)
    have hr2 := hr.mono (by decide : 2 ≤ 6)
    have hr3 := hr.mono (by decide : 3 ≤ 6)
    have hr4 := hr.mono (by decide : 4 ≤ 6)
    have hr5 := hr.mono (by decide : 5 ≤ 6)
    refine ⟨_, pss_cons (ps_if (pt_cmpR op_eq (pv 1) (pe_cn Z.CORNERS (by rfl)) (nomark _)) (pss_one (ps_ret (pe_call G1 hr1 (by rfl) D1.g D1.F.kp D1.b .nil pass0 (pa_cons (pe_call G2 hr3 (by rfl) D2.g D2.F.kp D2.b .nil pass0 (pa_cons (pv 0) pa_nil)) pa_nil)))) pss_nil)
      (pss_cons (ps_if (pt_cmpR op_eq (pv 1) (pe_cn Z.HOLES (by rfl)) (nomark _)) (pss_one (ps_ret (pe_lst (pa_cons (pe_call G3 hr4 (by rfl) D3.g D3.F.kp D3.b .nil pass0 (pa_cons (pv 0) pa_nil)) pa_nil)))) pss_nil)
      (pss_cons (ps_if (pt_cmpR op_eq (pv 1) (pe_cn Z.ROWS (by rfl)) (nomark _)) (pss_one (ps_ret (pe_call G1 hr1 (by rfl) D1.g D1.F.kp D1.b .nil pass0 (pa_cons (pe_call G4 hr2 (by rfl) D4.g D4.F.kp D4.b .nil pass0 (pa_cons (pe_fld (pv 0) rfl) pa_nil)) pa_nil)))) pss_nil)
      (pss_cons (ps_if (pt_cmpR op_eq (pv 1) (pe_cn Z.NAME (by rfl)) (nomark _)) (pss_one (ps_ret (pe_call G1 hr1 (by rfl) D1.g D1.F.kp D1.b .nil pass0 (pa_cons (pe_call G5 hr4 (by rfl) D5.g D5.F.kp D5.b .nil pass0 (pa_cons (pv 0) pa_nil)) pa_nil)))) pss_nil)
      (pss_cons (ps_if (pt_cmpR op_eq (pv 1) (pe_cn Z.SELVES (by rfl)) (nomark _)) (pss_one (ps_ret (pe_lst (pa_cons (pe_call G6 hr4 (by rfl) D6.g D6.F.kp D6.b .nil pass0 (pa_cons (pv 0) pa_nil)) pa_nil)))) pss_nil)
      (pss_cons (ps_if (pt_cmpR op_eq (pv 1) (pe_cn Z.STATE (by rfl)) (nomark _)) (pss_one (ps_ret (pe_op op_cat (pe_op op_cat (pe_lst (pa_cons (pe_callB call_len_seq (by rfl) B.len PySem.boot_len (pa_cons (pe_fld (pv 0) rfl) pa_nil)) pa_nil)) (pe_fld (pv 0) rfl)) (pe_fld (pv 0) rfl)))) pss_nil)
      (pss_cons (ps_if (pt_cmpR op_eq (pv 1) (pe_cn Z.WHEEL (by rfl)) (nomark _)) (pss_one (ps_ret (pe_lst (pa_cons (pe_call G7 hr5 (by rfl) D7.g D7.F.kp D7.b .nil pass0 (pa_cons (pv 0) pa_nil)) pa_nil)))) pss_nil)
      (pss_one (ps_ret (pe_call G8 hr (by rfl) D8.g D8.F.kp D8.b .nil pass0 (pa_cons (pv 0) (pa_cons (pe_lst (pa_cons (pe_cn Z.TURNED (by rfl)) (pa_cons (pe_cn Z.TURNED (by rfl)) pa_nil))) pa_nil))))))))))), ?_⟩
    obtain ⟨dx0, ae, an0, aw0, as0, q1, q2, q3, q4, q5⟩ := id hS
    refine ⟨_, rfl, rfl, _, rfl, ?_⟩
    rcases hx with rfl | rfl | rfl | rfl | rfl | rfl | rfl | rfl
    · refine br_t (by decide) ?_
      have q' : Tells H (lstAns (g.corners.map List.length)) Q := q
      refine ⟨_, rfl, a, g, rfl, hS, hg.toGl, hn, fun H1 p s1 np hp => ?_⟩
      refine ⟨p, _, rfl, hp, by rw [List.length_map]; have := corners_le hg.toGl; omega, fun H2 z s2 nz hz => q'.list s1 s2 nz hz⟩
    · refine br_f (by decide) ?_
      refine ⟨_, rfl, rfl, _, rfl, br_t (by decide) ?_⟩
      have q' : Tells H [(g.holes : Int)] Q := q
      refine ⟨_, rfl, a, g, rfl, hS, hg.toGl, hn, fun H1 s1 => ⟨le_size (by simp), fun p hp => q'.say s1 hp⟩⟩
    · refine br_f (by decide) ?_
      iterate 1 refine ⟨_, rfl, rfl, _, rfl, br_f (by decide) ?_⟩
      refine ⟨_, rfl, rfl, _, rfl, br_t (by decide) ?_⟩
      have q' : Tells H (lstAns ((cycles g.n (to g.east)).map List.length)) Q := q
      refine ⟨_, rfl, a, C, dx0, _, _, rfl, q1, T.cl, T.nE, sf_e _ _ _ _, ae, g.n, g.east, rfl, q2, hg.e, by omega, fun H1 p s1 np hp => ?_⟩
      refine ⟨p, _, rfl, hp, by rw [List.length_map]; have := cycles_le (Inj.to hg.e); omega, fun H2 z s2 nz hz => q'.list s1 s2 nz hz⟩
    · refine br_f (by decide) ?_
      iterate 2 refine ⟨_, rfl, rfl, _, rfl, br_f (by decide) ?_⟩
      refine ⟨_, rfl, rfl, _, rfl, br_t (by decide) ?_⟩
      have q' : Tells H (lstAns (both (name g))) Q := q
      refine ⟨_, rfl, a, g, rfl, hS, hg, hn, fun H1 p s1 hp => ?_⟩
      have tb := name_tab hg
      refine ⟨p, _, rfl, hp, by unfold both; rw [List.length_append, tb.e, tb.nn]; omega, fun H2 z s2 nz hz => q'.list s1 s2 nz hz⟩
    · refine br_f (by decide) ?_
      iterate 3 refine ⟨_, rfl, rfl, _, rfl, br_f (by decide) ?_⟩
      refine ⟨_, rfl, rfl, _, rfl, br_t (by decide) ?_⟩
      have q' : Tells H [(Krct.selves g : Int)] Q := q
      refine ⟨_, rfl, a, g, rfl, hS, hg, hn, fun H1 s1 => ⟨le_size (by simp), fun p hp => q'.say s1 hp⟩⟩
    · refine br_f (by decide) ?_
      iterate 4 refine ⟨_, rfl, rfl, _, rfl, br_f (by decide) ?_⟩
      refine ⟨_, rfl, rfl, _, rfl, br_t (by decide) ?_⟩
      have q' : Tells H ((g.n : Int) :: IntL (both g)) Q := q
      refine ⟨_, rfl, a, C, dx0, _, _, rfl, q1, T.cl, T.nE, sf_e _ _ _ _, ae, _, rfl, .inl (SqL.of q2), le_size (by simp), fun u hu => ?_⟩
      have s1 : Same H (upd H u (.lst [.int ((nv g.east).length : Int)])) := same_upd hu
      refine ⟨_, rfl, a, C, dx0, _, _, rfl, s1 _ _ q1, T.cl, T.nE, sf_e _ _ _ _, u, ae, _, _, rfl, rfl, upd_same, s1 _ _ q2, ?_, fun v hv => ?_⟩
      · rw [nv_len, hg.e.len]; exact le_size (by simp; omega)
      have s2 := s1.trans (same_upd (o := .lst ([.int ((nv g.east).length : Int)] ++ nv g.east)) hv)
      refine ⟨_, rfl, a, C, dx0, _, _, rfl, s2 _ _ q1, T.cl, T.nN, sf_n _ _ _ _, v, an0, _, _, rfl, rfl, upd_same, s2 _ _ q3, ?_, fun p hp => ?_⟩
      · rw [List.length_append, nv_len, nv_len, hg.e.len, hg.n.len]; exact le_size (by simp; omega)
      refine q' _ p (s2.trans (same_upd hp)) (s2.free hp) ?_
      rw [upd_same, nv_len, hg.e.len]
      unfold both
      rw [List.append_assoc, ← nv_append, nv_zv]; rfl
    · refine br_f (by decide) ?_
      iterate 5 refine ⟨_, rfl, rfl, _, rfl, br_f (by decide) ?_⟩
      refine ⟨_, rfl, rfl, _, rfl, br_t (by decide) ?_⟩
      have q' : Tells H [((Krcv.wheelOf g).length : Int)] Q := q
      refine ⟨_, rfl, a, g, rfl, hS, hg, hn, fun H1 s1 => ⟨le_size (by simp), fun p hp => q'.say s1 hp⟩⟩
    · refine br_f (by decide) ?_
      iterate 6 refine ⟨_, rfl, rfl, _, rfl, br_f (by decide) ?_⟩
      have q' : Tells H (fixAns g [2, 2]) Q := q
      refine ⟨_, rfl, le_size (by simp), fun u hu => ?_⟩
      refine ⟨a, u, g, [2, 2], rfl, hS.same (same_upd hu), hg, hn, upd_same, fun H2 p s2 np hp => ?_⟩
      exact q' H2 p ((same_upd hu).trans s2) ((same_upd hu).free np) hp
end
end Sq
set_option Elab.async false
set_option linter.unusedVariables false
set_option maxRecDepth 100000
set_option maxHeartbeats 2000000
namespace Sq
/-! ## how the calls are told -/
/-- a row, told from the place j on, ends ahead of the place j' -/
structure RowFrom (cs : List Nat) (j : Nat) (l : List Nat) (j' : Nat) : Prop where
  m : cs[j]? = some l.length
  le : j + 1 + l.length ≤ cs.length
  is : l = (cs.drop (j + 1)).take l.length
  to : j' = j + 1 + l.length
theorem drop_cons {α : Type} {l : List α} {j : Nat} {x : α} {r : List α} (h : l.drop j = x :: r) : l[j]? = some x ∧ r = l.drop (j + 1) ∧ j < l.length := by
  have hj : j < l.length := by
    apply Classical.byContradiction
    intro c
    rw [List.drop_eq_nil_of_le (by omega)] at h; cases h
  rw [List.drop_eq_getElem_cons hj] at h
  injection h with h1 h2
  exact ⟨by rw [List.getElem?_eq_getElem hj, h1], h2.symm, hj⟩
theorem IntL_take (l : List Nat) (n : Nat) : (IntL l).take n = IntL (l.take n) := by unfold IntL; rw [List.map_take]
theorem IntL_drop (l : List Nat) (n : Nat) : (IntL l).drop n = IntL (l.drop n) := by unfold IntL; rw [List.map_drop]
theorem IntL_len (l : List Nat) : (IntL l).length = l.length := by unfold IntL; rw [List.length_map]
theorem IntL_nat (l : List Nat) : (IntL l).map Int.toNat = l := by
  unfold IntL; rw [List.map_map]
  conv => rhs; rw [← List.map_id l]
  exact List.map_congr_left fun x _ => by simp
theorem row_from {cs : List Nat} {j : Nat} {x t : List Int} (h : PyFlat.row (IntL (cs.drop j)) = some (x, t)) : ∃ l j', x = IntL l ∧ t = IntL (cs.drop j') ∧ RowFrom cs j l j' := by
  cases e : cs.drop j with
  | nil => rw [e] at h; cases h
  | cons m r =>
    obtain ⟨h1, h2, h3⟩ := drop_cons e
    rw [e] at h
    have h' : (if 0 ≤ (m : Int) ∧ (m : Int).toNat ≤ (IntL r).length then some ((IntL r).take (m : Int).toNat, (IntL r).drop (m : Int).toNat) else none) = some (x, t) := h
    by_cases c : 0 ≤ (m : Int) ∧ (m : Int).toNat ≤ (IntL r).length
    · rw [if_pos c] at h'
      have e2 := Option.some.inj h'
      injection e2 with ex et
      have hm : (m : Int).toNat = m := by simp
      rw [hm] at ex et c
      have hl : m ≤ r.length := by rw [← IntL_len]; exact c.2
      have hr : r.length = cs.length - (j + 1) := by rw [h2, List.length_drop]
      refine ⟨r.take m, j + 1 + m, by rw [← ex, IntL_take], ?_, ?_⟩
      · rw [← et, IntL_drop, h2, List.drop_drop]
      · have hlen : (r.take m).length = m := by rw [List.length_take]; omega
        exact ⟨by rw [hlen]; exact h1, by rw [hlen]; omega, by rw [hlen, ← h2], by rw [hlen]⟩
    · rw [if_neg c] at h'; cases h'
/-- two rows, one row, no row -/
theorem rows_two {cs : List Nat} {j : Nat} {xs : List (List Int)} {t : List Int} (h : PyFlat.rows 2 (IntL (cs.drop j)) = some (xs, t)) :
    ∃ l k j1 j', xs = [IntL l, IntL k] ∧ t = IntL (cs.drop j') ∧ RowFrom cs j l j1 ∧ RowFrom cs j1 k j' := by
  unfold PyFlat.rows at h
  cases e : PyFlat.row (IntL (cs.drop j)) with
  | none => rw [e] at h; cases h
  | some p =>
    obtain ⟨x, s⟩ := p
    rw [e] at h
    obtain ⟨l, j1, rfl, rfl, R⟩ := row_from e
    simp only at h
    unfold PyFlat.rows at h
    cases e2 : PyFlat.row (IntL (cs.drop j1)) with
    | none => rw [e2] at h; cases h
    | some p =>
      obtain ⟨y, u⟩ := p
      rw [e2] at h
      obtain ⟨k, j', rfl, rfl, R2⟩ := row_from e2
      have h' : some ([IntL l, IntL k], IntL (cs.drop j')) = some (xs, t) := h
      injection h' with h'
      injection h' with a b
      exact ⟨l, k, j1, j', a.symm, b.symm, R, R2⟩
theorem rows_one {cs : List Nat} {j : Nat} {xs : List (List Int)} {t : List Int} (h : PyFlat.rows 1 (IntL (cs.drop j)) = some (xs, t)) :
    ∃ l j', xs = [IntL l] ∧ t = IntL (cs.drop j') ∧ RowFrom cs j l j' := by
  unfold PyFlat.rows at h
  cases e : PyFlat.row (IntL (cs.drop j)) with
  | none => rw [e] at h; cases h
  | some p =>
    obtain ⟨x, s⟩ := p
    rw [e] at h
    obtain ⟨l, j1, rfl, rfl, R⟩ := row_from e
    have h' : some ([IntL l], IntL (cs.drop j1)) = some (xs, t) := h
    injection h' with h'
    injection h' with a b
    exact ⟨l, j1, a.symm, b.symm, R⟩
/-- one call, told from the place k on: its number; its whole number or its rows -/
inductive CallAt (cs : List Nat) (k : Nat) : List (List Int) → Nat → Prop where
  | begin_ {n : Nat} : cs[k]? = some 0 → cs[k + 1]? = some n → CallAt cs k [[0, (n : Int)]] (k + 2)
  | two {x : Nat} {l m : List Nat} {j j' : Nat} : cs[k]? = some x → (x = 1 ∨ x = 12 ∨ x = 13) → RowFrom cs (k + 1) l j → RowFrom cs j m j' → CallAt cs k [[(x : Int)], IntL l, IntL m] j'
  | one {x : Nat} {l : List Nat} {j' : Nat} : cs[k]? = some x → (x = 8 ∨ x = 16) → RowFrom cs (k + 1) l j' → CallAt cs k [[(x : Int)], IntL l] j'
  | none {x : Nat} : cs[k]? = some x → (x = 2 ∨ x = 3 ∨ x = 4 ∨ x = 5 ∨ x = 6 ∨ x = 7 ∨ x = 9 ∨ x = 10 ∨ x = 11 ∨ x = 14 ∨ x = 15 ∨ x = 17) → CallAt cs k [[(x : Int)]] (k + 1)
theorem shape_two {x : Nat} (h : x = 1 ∨ x = 12 ∨ x = 13) : PyKrcv.shape (x : Int) = some (0, 2) := by rcases h with rfl | rfl | rfl <;> rfl
theorem shape_one {x : Nat} (h : x = 8 ∨ x = 16) : PyKrcv.shape (x : Int) = some (0, 1) := by rcases h with rfl | rfl <;> rfl
theorem shape_none {x : Nat} (h : x = 2 ∨ x = 3 ∨ x = 4 ∨ x = 5 ∨ x = 6 ∨ x = 7 ∨ x = 9 ∨ x = 10 ∨ x = 11 ∨ x = 14 ∨ x = 15 ∨ x = 17) : PyKrcv.shape (x : Int) = some (0, 0) := by
  rcases h with rfl | rfl | rfl | rfl | rfl | rfl | rfl | rfl | rfl | rfl | rfl | rfl <;> rfl
theorem shape_cases (x : Nat) : x = 0 ∨ (x = 1 ∨ x = 12 ∨ x = 13) ∨ (x = 8 ∨ x = 16) ∨ (x = 2 ∨ x = 3 ∨ x = 4 ∨ x = 5 ∨ x = 6 ∨ x = 7 ∨ x = 9 ∨ x = 10 ∨ x = 11 ∨ x = 14 ∨ x = 15 ∨ x = 17) ∨ 17 < x := by omega
theorem shape_more {x : Nat} (h : 17 < x) : PyKrcv.shape (x : Int) = none := by
  unfold PyKrcv.shape
  repeat rw [if_neg (by omega)]
theorem call_at {cs : List Nat} {k : Nat} {c : List (List Int)} {t : List Int} (h : PyFlat.call PyKrcv.shape (IntL (cs.drop k)) = some (c, t)) : ∃ j, CallAt cs k c j ∧ t = IntL (cs.drop j) := by
  cases e : cs.drop k with
  | nil => rw [e] at h; cases h
  | cons x r =>
    obtain ⟨h1, h2, h3⟩ := drop_cons e
    rw [e] at h
    have h' : (match PyKrcv.shape (x : Int) with
      | Option.none => Option.none
      | some (n, kk) => if (IntL r).length < n then Option.none else match PyFlat.rows kk ((IntL r).drop n) with
        | Option.none => Option.none
        | some (xs, t) => some (((x : Int) :: (IntL r).take n) :: xs, t)) = some (c, t) := h
    rcases shape_cases x with rfl | hx | hx | hx | hx
    · rw [show PyKrcv.shape ((0 : Nat) : Int) = some (1, 0) from rfl] at h'
      simp only at h'
      cases r with
      | nil => cases h'
      | cons y r =>
        obtain ⟨g1, g2, g3⟩ := drop_cons (h2.symm)
        rw [if_neg (by rw [IntL_len]; simp)] at h'
        have h'' : some ([[(0 : Int), (y : Int)]], IntL r) = some (c, t) := h'
        injection h'' with h''
        injection h'' with a b
        exact ⟨k + 2, a ▸ .begin_ h1 g1, by rw [← b, g2]⟩
    · rw [shape_two hx] at h'
      simp only at h'
      rw [if_neg (by omega), List.drop_zero, List.take_zero, h2] at h'
      cases e2 : PyFlat.rows 2 (IntL (cs.drop (k + 1))) with
      | none => rw [e2] at h'; cases h'
      | some p =>
        obtain ⟨xs, u⟩ := p
        rw [e2] at h'
        obtain ⟨l, m, j, j', rfl, rfl, R1, R2⟩ := rows_two e2
        simp only at h'
        injection h' with h'
        injection h' with a b
        exact ⟨j', a ▸ .two h1 hx R1 R2, b.symm⟩
    · rw [shape_one hx] at h'
      simp only at h'
      rw [if_neg (by omega), List.drop_zero, List.take_zero, h2] at h'
      cases e2 : PyFlat.rows 1 (IntL (cs.drop (k + 1))) with
      | none => rw [e2] at h'; cases h'
      | some p =>
        obtain ⟨xs, u⟩ := p
        rw [e2] at h'
        obtain ⟨l, j', rfl, rfl, R1⟩ := rows_one e2
        simp only at h'
        injection h' with h'
        injection h' with a b
        exact ⟨j', a ▸ .one h1 hx R1, b.symm⟩
    · rw [shape_none hx] at h'
      simp only at h'
      rw [if_neg (by omega), List.drop_zero, List.take_zero, h2] at h'
      have h'' : some ([[(x : Int)]], IntL (cs.drop (k + 1))) = some (c, t) := h'
      injection h'' with h''
      injection h'' with a b
      exact ⟨k + 1, a ▸ .none h1 hx, b.symm⟩
    · rw [shape_more hx] at h'
      cases h'
/-- the calls from the place k on -/
theorem calls_at {cs : List Nat} {k f : Nat} {rs : List (List (List Int))} (h : PyFlat.calls PyKrcv.shape f (IntL (cs.drop k)) = some rs) :
    (cs.length ≤ k ∧ rs = []) ∨ ∃ c j rs' f', k < cs.length ∧ rs = c :: rs' ∧ CallAt cs k c j ∧ PyFlat.calls PyKrcv.shape f' (IntL (cs.drop j)) = some rs' := by
  cases e : cs.drop k with
  | nil =>
    refine .inl ⟨List.drop_eq_nil_iff.mp e, ?_⟩
    rw [e] at h
    cases f with
    | zero => exact (Option.some.inj h).symm
    | succ f => exact (Option.some.inj h).symm
  | cons x r =>
    obtain ⟨h1, h2, h3⟩ := drop_cons e
    cases f with
    | zero => rw [e] at h; cases h
    | succ f =>
      have h' : (match PyFlat.call PyKrcv.shape (IntL (cs.drop k)) with
        | Option.none => Option.none
        | some (c, t) => match PyFlat.calls PyKrcv.shape f t with
          | Option.none => Option.none
          | some cs' => some (c :: cs')) = some rs := by
        rw [e] at h ⊢; exact h
      cases e2 : PyFlat.call PyKrcv.shape (IntL (cs.drop k)) with
      | none => rw [e2] at h'; cases h'
      | some p =>
        obtain ⟨c, t⟩ := p
        rw [e2] at h'
        simp only at h'
        obtain ⟨j, C1, rfl⟩ := call_at e2
        cases e3 : PyFlat.calls PyKrcv.shape f (IntL (cs.drop j)) with
        | none => rw [e3] at h'; cases h'
        | some rs' =>
          rw [e3] at h'
          exact .inr ⟨c, j, rs', f, h3, (Option.some.inj h').symm, C1, e3⟩
end Sq
set_option Elab.async false
set_option linter.unusedVariables false
set_option maxRecDepth 100000
set_option maxHeartbeats 2000000
namespace Sq
open PySem PySem.Spec PyProof.Rows L2
open Krct (Glued)
/-! ### answers -/
def But2 (b r : Addr) (H H' : Hp) : Prop := ∀ x o, H x = some o → x ≠ b → x ≠ r → H' x = some o
/-- answer_next: one call is read and answered -/
def spNext (K : PySem.W.Frag) (CB C CR : Addr) : Sp := fun vs H Q _ => ∃ (b r a : Addr) (st : Option Glued) (cs : List Nat) (k j : Nat) (c : List (List Int)), vs = [.ref b, .ref r] ∧ BoardAt CB C H b st ∧ StOk st ∧ ReaderAt CR H r a k ∧ SqL K H a (nv cs) ∧ CallAt cs k c j ∧
  ∀ (H' : Hp) (p : Addr), But2 b r H H' → BoardAt CB C H' b (KrcvNeutral.step st (PyKrcv.whole c)).1 → ReaderAt CR H' r a j → H p = none → H' p = some (.lst (zv (KrcvNeutral.step st (PyKrcv.whole c)).2)) → StOk (KrcvNeutral.step st (PyKrcv.whole c)).1 → (∀ t o, H t = some o → BOff C t H b → BOff C t H' b) → Q (.ref p) H'
def rest (st : Option Glued) (rc : List (List (List Int))) : List Int := PyFlat.told (PyFlat.played KrcvNeutral.step st (rc.map PyKrcv.whole))
theorem rest_cons (st : Option Glued) (c : List (List Int)) (rc : List (List (List Int))) :
    rest st (c :: rc) = ((KrcvNeutral.step st (PyKrcv.whole c)).2.length : Int) :: ((KrcvNeutral.step st (PyKrcv.whole c)).2 ++ rest (KrcvNeutral.step st (PyKrcv.whole c)).1 rc) := by
  unfold rest PyFlat.told
  rw [List.map_cons]
  show List.flatMap _ (_ :: _) = _
  rw [List.flatMap_cons]; rfl
theorem CallAt.lt {cs : List Nat} {k j : Nat} {c : List (List Int)} (h : CallAt cs k c j) : k < j := by
  cases h with
  | begin_ => omega
  | two _ _ R1 R2 => have := R1.to; have := R2.to; omega
  | one _ _ R1 => have := R1.to; omega
  | none => omega
def placeOf : List (Str × V) → Nat
  | [_, (_, .int k)] => k.toNat
  | _ => 0
def placeAt (H : Hp) (r : Addr) : Nat := match H r with
  | some (.ins _ _ fs) => placeOf fs
  | _ => 0
theorem placeAt_is {CR : Addr} {H : Hp} {r a : Addr} {k : Nat} (h : ReaderAt CR H r a k) : placeAt H r = k := by
  obtain ⟨dx, e⟩ := h
  unfold placeAt
  rw [e]
  show (k : Int).toNat = k
  simp
theorem SurfAt.off {C t a : Addr} {H H' : Hp} {g : Glued} {xs : List V} (h : SurfAt C H a g) (k : But t H H') (ht : H t = some (.lst xs)) (o : Off C t H a) : SurfAt C H' a g := by
  obtain ⟨dx, ae, an, aw, as, h1, h2, h3, h4, h5⟩ := h
  obtain ⟨o1, o2, o3, o4⟩ := o.inv h1
  exact ⟨dx, ae, an, aw, as, k _ _ h1 (fun z => by rw [z, ht] at h1; cases h1), k _ _ h2 o1, k _ _ h3 o2, k _ _ h4 o3, k _ _ h5 o4⟩
theorem zv_append (l k : List Int) : zv (l ++ k) = zv l ++ zv k := List.map_append ..
theorem zv_len (l : List Int) : (zv l).length = l.length := List.length_map ..
abbrev sNext : Stmt := top 68
abbrev sAnswers : Stmt := top 69
theorem scAnswers : FnScope ["calls", "board", "reader", "told", "answer"] ["calls"] (defScope sAnswers) := ⟨rfl, rfl, rfl, by decide +kernel, rfl, by decide +kernel, by decide +kernel⟩
def spAnswers (K : PySem.W.Frag) : Sp := fun vs H Q _ => ∃ (a : Addr) (cs : List Nat) (rc : List (List (List Int))) (f : Nat), vs = [.ref a] ∧ SqL K H a (nv cs) ∧ PyFlat.calls PyKrcv.shape f (IntL cs) = some rc ∧ (rest none rc).length ≤ 10000000 ∧
  ∀ (H' : Hp) (p : Addr), Same H H' → H' p = some (.lst (zv (rest none rc))) → Q (.ref p) H'
section
variable {P : Program} {w : World} {K : PySem.W.Frag} {mg : Str → Option Value} {base : Heap} {C CB fB CR f0 f1 f2 f3 : Addr} {fdB fd0 fd1 fd2 fd3 : FuncData}
theorem ok_answers {n : Nat} {f fN : Addr} {fd fdN : FuncData} (TB : BoardC K mg CB fB fdB) (TR : ReaderC K mg CR f0 f1 f2 f3 fd0 fd1 fd2 fd3) (B : Blt mg) (D : DefAt K mg "answers" sAnswers ["calls"] f fd) (DN : DefAt K mg "answer_next" sNext ["board", "reader"] fN fdN)
    (GN : FnOk P w K mg base CX0 (n + 2) fN fdN ["board", "reader"] (spNext K CB C CR)) : FnOk P w K mg base CX0 (n + 3) f fd ["calls"] (spAnswers K) := by
  have GB : FnOk P w K mg base CX0 1 fB fdB ["self"] (spBoard CB) := ok_board TB
  have G0 : FnOk P w K mg base CX0 1 f0 fd0 ["self", "numbers"] (spRdInit CR) := ok_rdInit TR
  have G1 : FnOk P w K mg base CX0 1 f1 fd1 ["self"] (spRdEnded K CR) := ok_rdEnded TR B
  refine D.F.ok scAnswers (fun vs H Q E h => ?_) (fun cdv A outer s0 H vs Q E hr h => ?_)
  · obtain ⟨a, cs, rc, f, rfl, _⟩ := h
    rfl
  · obtain ⟨a, cs, rc0, fu, rfl, hS, hc, hlen, q⟩ := h
    have nd := scAnswers.nd
    have hr2 := hr.mono (by omega : 2 ≤ n + 2)
    have hr1 := hr.mono (by omega : 1 ≤ n + 2)
    refine ⟨_, pss_cons (ps_set (i := 1) nd rfl (.inl rfl) (pe_make0 TB.M GB hr2 (by rfl) TB.g TB.b .nil pass0))
      (pss_cons (ps_set (i := 2) nd rfl (.inl rfl) (pe_make TR.M G0 hr2 (by rfl) TR.g TR.b0 .nil pass0 (pa_cons (pv 0) pa_nil)))
      (pss_cons (ps_set (i := 3) nd rfl (.inl rfl) (pe_lst pa_nil))
      (pss_cons (ps_while PassesOwn.never (pt_not (pt_val (pe_meth0 (pv 2) TR.cl TR.m1 G1 hr1 TR.b1 .nil pass0)))
        (pss_cons (ps_set (i := 4) nd rfl (.inl rfl) (pe_call GN hr (by rfl) DN.g DN.F.kp DN.b .nil pass0 (pa_cons (pv 1) (pa_cons (pv 2) pa_nil))))
        (pss_cons (ps_expr (pe_bm PySem.F.plainAttrs_list PySem.F.slot_list_append PySem.F.type_list_append mt_append (pv 3) (pa_cons (pe_callB call_len_seq (by rfl) B.len PySem.boot_len (pa_cons (pv 4) pa_nil)) pa_nil)))
        (pss_one (ps_expr (pe_bm PySem.F.plainAttrs_list PySem.F.slot_list_extend PySem.F.type_list_extend mt_extend (pv 3) (pa_cons (pv 4) pa_nil)))))))
      (pss_one (ps_ret (pv 3)))))), ?_⟩
    intro b db nb ndb neb
    refine ⟨b, db, rfl, upd_same, fun H1 hb1 k1 => ⟨rfl, ?_⟩⟩
    have s1 : Same H H1 := Same.made nb ndb k1
    refine ⟨_, rfl, fun r dr nr ndr ner => ?_⟩
    refine ⟨r, dr, a, rfl, upd_same, fun H2 R2 k2 => ⟨rfl, ?_⟩⟩
    have s2 : Same H1 H2 := Same.made nr ndr k2
    have hb2 := s2 _ _ hb1
    refine ⟨le_size (by simp), fun t ht => ?_⟩
    have s3 : Same H2 (upd H2 t (.lst [])) := same_upd ht
    have s30 := s1.trans (s2.trans s3)
    obtain ⟨dr2, hR2⟩ := id R2
    have tb : t ≠ b := fun z => by rw [z, hb2] at ht; cases ht
    have tr : t ≠ r := fun z => by rw [z, hR2] at ht; cases ht
    have nt : H t = none := (s1.trans s2).free ht
    have nr0 : H r = none := s1.free nr
    refine while_by (fun σ H' => ∃ (k : Nat) (st : Option Glued) (out : List Int) (rc : List (List (List Int))) (f : Nat) (v : Option V), σ = [some (.ref a), some (.ref b), some (.ref r), some (.ref t), v] ∧ BoardAt CB C H' b st ∧ StOk st ∧ ReaderAt CR H' r a k ∧ Same H H' ∧
        H' t = some (.lst (zv out)) ∧ PyFlat.calls PyKrcv.shape f (IntL (cs.drop k)) = some rc ∧ out ++ rest st rc = rest none rc0 ∧ BOff C t H' b)
      (fun _ H' => cs.length - placeAt H' r)
      ⟨0, none, [], rc0, fu, none, rfl, ⟨db, .non, s3 _ _ hb2, rfl⟩, (fun g e => by cases e), ⟨dr2, s3 _ _ hR2⟩, s30, upd_same, by rw [List.drop_zero]; exact hc, rfl, fun CB' dx' a' e' => ?_⟩ ?_ ?_
    · rw [s3 _ _ hb2] at e'; cases e'
    · rintro σ H' ⟨k, st, out, rc, f, v, rfl, hB, hSt, hR, sH, hT, hcs, htot, hoff⟩
      obtain ⟨dr3, hR3⟩ := id hR
      refine ⟨_, rfl, r, dr3, _, rfl, hR3, rF_no _ _ (by decide +kernel) (by decide +kernel), r, a, k, cs, rfl, hR, sH.seq hS, fun H4 s4 => ⟨_, rfl, ?_⟩⟩
      rcases calls_at hcs with ⟨hk, rfl⟩ | ⟨c, j, rc', f', hk, rfl, hC, hcs'⟩
      · refine br_f (by rw [decide_eq_true hk]; rfl) ?_
        have : out = rest none rc0 := by
          rw [← htot]
          exact (List.append_nil out).symm
        rw [← this] at q
        exact ⟨_, rfl, q H4 t (sH.trans s4) (s4 _ _ hT)⟩
      · refine br_t (by rw [decide_eq_false (by omega)]; rfl) ?_
        have sH4 := sH.trans s4
        have hT4 := s4 _ _ hT
        have hR4 := s4 _ _ hR3
        refine ⟨_, rfl, _, rfl, b, r, a, st, cs, k, j, c, rfl, hB.same s4, hSt, ⟨dr3, hR4⟩, sH4.seq hS, hC, fun H5 p k5 hB5 hR5 np hp5 hSt5 off5 => ?_⟩
        generalize hst' : (KrcvNeutral.step st (PyKrcv.whole c)).1 = st' at hB5 hSt5
        generalize hans : (KrcvNeutral.step st (PyKrcv.whole c)).2 = ans at hp5
        rw [rest_cons, hst', hans] at htot
        have hT5 : H5 t = some (.lst (zv out)) := k5 _ _ hT4 tb tr
        have sH5 : Same H H5 := fun x o e => k5 _ _ (sH4 _ _ e) (fun z => by rw [z, nb] at e; cases e) (fun z => by rw [z, nr0] at e; cases e)
        have tp : p ≠ t := fun z => by rw [z, hT4] at np; cases np
        have htl : out.length + (1 + (ans.length + (rest st' rc').length)) ≤ 10000000 := by
          rw [← htot, List.length_append, List.length_cons, List.length_append] at hlen
          omega
        have hsz := sizeLine_eq
        refine ⟨_, rfl, .inl ⟨rfl, _, SqL.of hT5⟩, _, rfl, p, _, rfl, .inl (SqL.of hp5), t, _, _, rfl, rfl, hT5, by rw [zv_len]; omega, ?_⟩
        have e6 : upd H5 t (.lst (zv out ++ [.int ((zv ans).length : Int)])) t = some (.lst (zv (out ++ [(ans.length : Int)]))) := by
          rw [upd_same, zv_append, zv_len]; rfl
        have p6 : upd H5 t (.lst (zv out ++ [.int ((zv ans).length : Int)])) p = some (.lst (zv ans)) := by rw [upd_ne tp]; exact hp5
        generalize eH6 : upd H5 t (.lst (zv out ++ [.int ((zv ans).length : Int)])) = H6 at e6 p6 ⊢
        have k6 : But t H5 H6 := by rw [← eH6]; exact But.upd
        refine ⟨_, rfl, .inl ⟨rfl, _, SqL.of e6⟩, _, rfl, t, p, _, _, rfl, rfl, e6, p6, ?_, ?_⟩
        · rw [zv_len, zv_len, List.length_append, List.length_cons, List.length_nil]; omega
        · have k7 : But t H5 (upd H6 t (.lst (zv (out ++ [(ans.length : Int)]) ++ zv ans))) := k6.trans But.upd
          obtain ⟨dr5, hR5'⟩ := id hR5
          have hR7 : ReaderAt CR (upd H6 t (.lst (zv (out ++ [(ans.length : Int)]) ++ zv ans))) r a j := ⟨dr5, k7 _ _ hR5' (Ne.symm tr)⟩
          have o5 : BOff C t H5 b := off5 t _ hT4 (hoff.same hB s4)
          refine ⟨⟨j, st', out ++ ((ans.length : Int) :: ans), rc', f', _, rfl, ?_, hSt5, hR7, fun x o e => k7 _ _ (sH5 _ _ e) (fun z => by rw [z, nt] at e; cases e), ?_, hcs', ?_, ?_⟩, ?_⟩
          · obtain ⟨db5, v5, hb5, hs5⟩ := hB5
            refine ⟨db5, v5, k7 _ _ hb5 (Ne.symm tb), ?_⟩
            cases st' with
            | none => exact hs5
            | some g =>
              obtain ⟨x, rfl, S5⟩ := hs5
              exact ⟨x, rfl, S5.off k7 hT5 (boff_inv hb5 o5)⟩
          · rw [upd_same, ← zv_append, List.append_assoc]; rfl
          · rw [← htot]; simp
          · obtain ⟨db5, v5, hb5, hs5⟩ := hB5
            intro CB' dx' a' e'
            rw [k7 _ _ hb5 (Ne.symm tb)] at e'
            obtain ⟨dx2, ae2, an2, aw2, as2, w1, w2⟩ := o5 CB' dx' a' (hb5.trans e')
            exact ⟨dx2, ae2, an2, aw2, as2, k7 _ _ w1 (fun z => by rw [z, hT5] at w1; cases w1), w2⟩
          · rw [placeAt_is hR7, placeAt_is hR]
            have := hC.lt
            omega
    · rintro σ H' Q1 Q2 hQ ⟨v, e1, x, dx, fs, e2, e3, e4, r', a', k', cs', e5, e6, e7, e8⟩
      exact ⟨v, e1, x, dx, fs, e2, e3, e4, r', a', k', cs', e5, e6, e7, fun H9 s9 => let ⟨c9, e9, q9⟩ := e8 H9 s9; ⟨c9, e9, hQ _ _ q9⟩⟩
end
end Sq
set_option Elab.async false
set_option linter.unusedVariables false
set_option maxRecDepth 100000
set_option maxHeartbeats 2000000
namespace Sq
open PySem PySem.Spec PyProof.Rows L2
open Krct (Glued to from_ inverse cycleOf cycles name less isPerm)
open Krcv (Node)
/-! ### what the specification does with a call -/
theorem step_eq (st : Option Glued) (c : List (List Int)) : KrcvNeutral.step st c = ((Krcv.act st (KrcvNeutral.call c)).1, KrcvNeutral.told (Krcv.act st (KrcvNeutral.call c)).2) := rfl
theorem call_begin (n : Nat) : KrcvNeutral.call (PyKrcv.whole [[0, (n : Int)]]) = .base (.begin_ n) := by
  show Krcv.Call.base (.begin_ (Int.toNat (n : Int))) = _
  rw [Int.toNat_natCast]
theorem call_glue (l m : List Nat) : KrcvNeutral.call (PyKrcv.whole [[((1 : Nat) : Int)], IntL l, IntL m]) = .base (.glue l m) := by
  show Krcv.Call.base (.glue ((IntL l).map Int.toNat) ((IntL m).map Int.toNat)) = _
  rw [IntL_nat, IntL_nat]
theorem call_way (l m : List Nat) : KrcvNeutral.call (PyKrcv.whole [[((12 : Nat) : Int)], IntL l, IntL m]) = .way l m := by
  show Krcv.Call.way ((IntL l).map Int.toNat) ((IntL m).map Int.toNat) = _
  rw [IntL_nat, IntL_nat]
theorem call_reaches (l m : List Nat) : KrcvNeutral.call (PyKrcv.whole [[((13 : Nat) : Int)], IntL l, IntL m]) = .reaches l m := by
  show Krcv.Call.reaches ((IntL l).map Int.toNat) ((IntL m).map Int.toNat) = _
  rw [IntL_nat, IntL_nat]
theorem call_do (l : List Nat) : KrcvNeutral.call (PyKrcv.whole [[((8 : Nat) : Int)], IntL l]) = .do_ l := by
  show Krcv.Call.do_ ((IntL l).map Int.toNat) = _
  rw [IntL_nat]
theorem call_fixes (l : List Nat) : KrcvNeutral.call (PyKrcv.whole [[((16 : Nat) : Int)], IntL l]) = .fixes l := by
  show Krcv.Call.fixes ((IntL l).map Int.toNat) = _
  rw [IntL_nat]
theorem step_begin (st : Option Glued) (n : Nat) : KrcvNeutral.step st (PyKrcv.whole [[0, (n : Int)]]) = beginOf st n := by
  rw [step_eq, call_begin]
  show ((Krct.act st (.begin_ n)).1, KrcvNeutral.told (Krct.act st (.begin_ n)).2) = _
  unfold Krct.act beginOf
  simp only []
  show (((if (n = 0 || decide (6 < n)) = true then (st, Krct.say (-22)) else (some (Krct.row n), Krct.say 0)) : Option Glued × Krct.Ans).1, KrcvNeutral.told ((if (n = 0 || decide (6 < n)) = true then (st, Krct.say (-22)) else (some (Krct.row n), Krct.say 0)) : Option Glued × Krct.Ans).2) = _
  by_cases c : (n = 0 || decide (6 < n)) = true
  · rw [if_pos c, if_pos c]; rfl
  · rw [if_neg c, if_neg c]; rfl
theorem step_glue (g : Glued) (l m : List Nat) : KrcvNeutral.step (some g) (PyKrcv.whole [[((1 : Nat) : Int)], IntL l, IntL m]) = glueOf g l m := by
  rw [step_eq, call_glue]
  show (((if (!isPerm g.n l || !isPerm g.n m) = true then (some g, Krct.say (-22)) else if (!(⟨g.n, l, m⟩ : Glued).whole) = true then (some g, Krct.say (-33)) else (some ⟨g.n, l, m⟩, Krct.nat (⟨g.n, l, m⟩ : Glued).corners.length)) : Option Glued × Krct.Ans).1,
    KrcvNeutral.told ((if (!isPerm g.n l || !isPerm g.n m) = true then (some g, Krct.say (-22)) else if (!(⟨g.n, l, m⟩ : Glued).whole) = true then (some g, Krct.say (-33)) else (some ⟨g.n, l, m⟩, Krct.nat (⟨g.n, l, m⟩ : Glued).corners.length)) : Option Glued × Krct.Ans).2) = _
  unfold glueOf refusal
  by_cases c : (!isPerm g.n l || !isPerm g.n m) = true
  · rw [if_pos c, if_pos c, if_neg (by decide)]; rfl
  · rw [if_neg c, if_neg c]
    by_cases c2 : (!(⟨g.n, l, m⟩ : Glued).whole) = true
    · rw [if_pos c2, if_pos c2, if_neg (by decide)]; rfl
    · rw [if_neg c2, if_neg c2, if_pos rfl]; rfl
theorem step_do (g : Glued) (l : List Nat) : KrcvNeutral.step (some g) (PyKrcv.whole [[((8 : Nat) : Int)], IntL l]) = doOf g l := by
  rw [step_eq, call_do]
  show (((if (!Krcv.moveOk l) = true then (some g, Krct.say (-22)) else (some (Krcv.apply g l), Krct.nat l.length)) : Option Glued × Krct.Ans).1, KrcvNeutral.told ((if (!Krcv.moveOk l) = true then (some g, Krct.say (-22)) else (some (Krcv.apply g l), Krct.nat l.length)) : Option Glued × Krct.Ans).2) = _
  unfold doOf
  cases Krcv.moveOk l <;> rfl
theorem step_fixes (g : Glued) (l : List Nat) : KrcvNeutral.step (some g) (PyKrcv.whole [[((16 : Nat) : Int)], IntL l]) = (some g, fixAns g l) := by
  rw [step_eq, call_fixes]
  show (some g, KrcvNeutral.told (if (!Krcv.moveOk l) = true then Krct.say (-22) else Krct.ask (Krct.same (Krcv.apply g l) g))) = _
  unfold fixAns
  cases Krcv.moveOk l <;> rfl
theorem target_is (g : Glued) (l m : List Nat) : Krcv.target g l m = if refusal g.n l m = 0 then .ok ⟨g.n, l, m⟩ else .error (refusal g.n l m) := by
  unfold Krcv.target refusal
  by_cases c : (!isPerm g.n l || !isPerm g.n m) = true
  · rw [if_pos c, if_pos c, if_neg (by decide)]
  · rw [if_neg c, if_neg c]
    by_cases c2 : (!(⟨g.n, l, m⟩ : Glued).whole) = true
    · rw [if_pos c2, if_pos c2, if_neg (by decide)]
    · rw [if_neg c2, if_neg c2, if_pos rfl]
theorem step_way (g : Glued) (l m : List Nat) : KrcvNeutral.step (some g) (PyKrcv.whole [[((12 : Nat) : Int)], IntL l, IntL m]) = (some g, otherAns g 12 l m) := by
  rw [step_eq, call_way]
  show (some g, KrcvNeutral.told (match Krcv.target g l m with
    | .error e => Krct.say e
    | .ok t => match Krcv.orbit g with
      | none => Krct.say (-75)
      | some o => if (!o.contains (name t)) = true then Krct.say (-34) else match Krcv.way g t with
        | none => Krct.say (-34)
        | some w => Krct.list w)) = _
  rw [target_is]
  unfold otherAns
  by_cases c : refusal g.n l m = 0
  · rw [if_pos c, if_pos c]
    simp only []
    cases Krcv.orbit g with
    | none => rfl
    | some o =>
      simp only []
      rw [if_neg (show ¬ ((12 : Nat) = 13) by decide)]
      by_cases c2 : (!o.contains (name ⟨g.n, l, m⟩)) = true
      · rw [if_pos c2, if_pos c2]; rfl
      · rw [if_neg c2, if_neg c2]
        unfold wayAns
        cases Krcv.way g ⟨g.n, l, m⟩ <;> rfl
  · rw [if_neg c, if_neg c]; rfl
theorem step_reaches (g : Glued) (l m : List Nat) : KrcvNeutral.step (some g) (PyKrcv.whole [[((13 : Nat) : Int)], IntL l, IntL m]) = (some g, otherAns g 13 l m) := by
  rw [step_eq, call_reaches]
  show (some g, KrcvNeutral.told (match Krcv.target g l m with
    | .error e => Krct.say e
    | .ok t => match Krcv.orbit g with
      | none => Krct.say (-75)
      | some o => Krct.ask (o.contains (name t)))) = _
  rw [target_is]
  unfold otherAns
  by_cases c : refusal g.n l m = 0
  · rw [if_pos c, if_pos c]
    simp only []
    cases Krcv.orbit g with
    | none => rfl
    | some o => rfl
  · rw [if_neg c, if_neg c]; rfl
theorem step_orb (g : Glued) {x : Nat} (hx : x = 9 ∨ x = 10 ∨ x = 14 ∨ x = 15) : KrcvNeutral.step (some g) (PyKrcv.whole [[(x : Int)]]) = (some g, orbAns g x) := by
  unfold orbAns
  rcases hx with rfl | rfl | rfl | rfl
  · show (some g, KrcvNeutral.told (match Krcv.orbit g with
      | none => Krct.say (-75)
      | some l => Krct.nat l.length)) = _
    cases Krcv.orbit g <;> rfl
  · show (some g, KrcvNeutral.told (match Krcv.orbit g with
      | none => Krct.say (-75)
      | some l => Krct.list (Krcv.wheels l))) = _
    cases Krcv.orbit g <;> rfl
  · show (some g, KrcvNeutral.told (match Krcv.orbit g with
      | none => Krct.say (-75)
      | some l => match Krcv.least l with
        | none => Krct.say (-33)
        | some h => Krct.list (h.east ++ h.north))) = _
    cases Krcv.orbit g with
    | none => rfl
    | some l =>
      show (some g, KrcvNeutral.told (match Krcv.least l with
        | none => Krct.say (-33)
        | some h => Krct.list (h.east ++ h.north))) = (some g, leastAns l)
      unfold leastAns
      cases Krcv.least l <;> rfl
  · show (some g, KrcvNeutral.told (match Krcv.orbit g with
      | none => Krct.say (-75)
      | some l => Krct.nat (l.filter fun h => less h (name g)).length)) = _
    cases Krcv.orbit g <;> rfl
theorem step_tell (g : Glued) {x : Nat} (hx : x = 2 ∨ x = 3 ∨ x = 4 ∨ x = 5 ∨ x = 6 ∨ x = 7 ∨ x = 11 ∨ x = 17) : KrcvNeutral.step (some g) (PyKrcv.whole [[(x : Int)]]) = (some g, tellAns g x) := by
  rcases hx with rfl | rfl | rfl | rfl | rfl | rfl | rfl | rfl
  all_goals rfl
/-- ahead of a begin -/
theorem step_none {cs : List Nat} {k j : Nat} {c : List (List Int)} (h : CallAt cs k c j) (h0 : cs[k]? ≠ some 0) : KrcvNeutral.step none (PyKrcv.whole c) = (none, [-11]) := by
  cases h with
  | begin_ e _ => exact absurd e h0
  | two _ hx _ _ => rcases hx with rfl | rfl | rfl <;> rfl
  | one _ hx _ => rcases hx with rfl | rfl <;> rfl
  | none _ hx => rcases hx with rfl | rfl | rfl | rfl | rfl | rfl | rfl | rfl | rfl | rfl | rfl | rfl <;> rfl
/-! ### a call's rows -/
structure RowsFrom (cs : List Nat) (k j : Nat) (ls : List (List Nat)) (pl : Nat → Nat) : Prop where
  zero : pl 0 = k
  last : pl ls.length = j
  row : ∀ (i : Nat) (l : List Nat), ls[i]? = some l → RowFrom cs (pl i) l (pl (i + 1))
theorem rowsF_nil {cs : List Nat} {k : Nat} : ∃ pl, RowsFrom cs k k [] pl := ⟨fun _ => k, rfl, rfl, fun i l h => by simp at h⟩
theorem rowsF_one {cs : List Nat} {k j : Nat} {l : List Nat} (R : RowFrom cs k l j) : ∃ pl, RowsFrom cs k j [l] pl := by
  refine ⟨fun i => if i = 0 then k else j, rfl, rfl, fun i l' h => ?_⟩
  cases i with
  | zero => cases h; exact R
  | succ i => simp at h
theorem rowsF_two {cs : List Nat} {k j1 j : Nat} {l m : List Nat} (R : RowFrom cs k l j1) (R2 : RowFrom cs j1 m j) : ∃ pl, RowsFrom cs k j [l, m] pl := by
  refine ⟨fun i => if i = 0 then k else if i = 1 then j1 else j, rfl, rfl, fun i l' h => ?_⟩
  match i with
  | 0 => cases h; exact R
  | 1 => cases h; exact R2
  | i + 2 => simp at h
end Sq
set_option Elab.async false
set_option linter.unusedVariables false
set_option maxRecDepth 100000
set_option maxHeartbeats 4000000
namespace Sq
open PySem PySem.Spec PyProof.Rows L2
open Krct (Glued to from_ inverse cycleOf cycles name less isPerm)
open Krcv (Node)
/-! ### the reader goes on, all else stays -/
theorem rF_len (a : Addr) (k : Nat) : (rF a k).length = 2 := rfl
theorem b_ne_r {CB C CR dr b r a : Addr} {k : Nat} {H : Hp} {st : Option Glued} (hb : BoardAt CB C H b st) (hr : H r = some (.ins CR dr (rF a k))) : b ≠ r := fun z => by
  obtain ⟨dx, v, h1, _⟩ := hb
  rw [z, hr] at h1
  injection h1 with h1
  injection h1 with _ _ h1
  have := congrArg List.length h1
  rw [rF_len] at this
  simp at this
theorem sf_ne_r {C CR dx dr a r n : Addr} {k : Nat} {ae an aw as : Addr} {H : Hp} (h1 : H a = some (.ins C dx (sfF ae an aw as))) (hr : H r = some (.ins CR dr (rF n k))) : a ≠ r := fun z => by
  rw [z, hr] at h1
  injection h1 with h1
  injection h1 with _ _ h1
  have := congrArg List.length h1
  rw [rF_len] at this
  simp [sfF] at this
theorem SurfAt.butR {C CR dr a r n : Addr} {k : Nat} {H H' : Hp} {g : Glued} (s : But r H H') (hr : H r = some (.ins CR dr (rF n k))) (h : SurfAt C H a g) : SurfAt C H' a g := by
  obtain ⟨dx', ae, an, aw, as, h1, h2, h3, h4, h5⟩ := h
  have nl : ∀ {x : Addr} {xs : List V}, H x = some (.lst xs) → x ≠ r := fun e z => by rw [z, hr] at e; cases e
  exact ⟨dx', ae, an, aw, as, s _ _ h1 (sf_ne_r h1 hr), s _ _ h2 (nl h2), s _ _ h3 (nl h3), s _ _ h4 (nl h4), s _ _ h5 (nl h5)⟩
theorem BoardAt.butR {CB C CR dr b r n : Addr} {k : Nat} {H H' : Hp} {st : Option Glued} (s : But r H H') (hr : H r = some (.ins CR dr (rF n k))) (h : BoardAt CB C H b st) : BoardAt CB C H' b st := by
  have ne := b_ne_r h hr
  obtain ⟨dx, v, h1, h2⟩ := h
  refine ⟨dx, v, s _ _ h1 ne, ?_⟩
  cases st with
  | none => exact h2
  | some g =>
    obtain ⟨a, e, S⟩ := h2
    exact ⟨a, e, S.butR s hr⟩
theorem BOff.butR {CB C CR dr b r n t : Addr} {k : Nat} {H H' : Hp} {st : Option Glued} (s : But r H H') (hr : H r = some (.ins CR dr (rF n k))) (hb : BoardAt CB C H b st) (h : BOff C t H b) : BOff C t H' b := fun CB' dx' a e => by
  have ne := b_ne_r hb hr
  obtain ⟨dx, v, e1, _⟩ := hb
  have e2 := (s _ _ e1 ne).symm.trans e
  rw [Option.some.inj e2] at e1
  obtain ⟨dx2, ae2, an2, aw2, as2, w1, w2⟩ := h CB' dx' a e1
  exact ⟨dx2, ae2, an2, aw2, as2, s _ _ w1 (sf_ne_r w1 hr), w2⟩
theorem But.free {r p : Addr} {H H' : Hp} {o : HO} (s : But r H H') (hr : H' r = some o) (hp : H' p = none) : H p = none := by
  cases e : H p with
  | none => rfl
  | some u =>
    exfalso
    by_cases c : p = r
    · rw [c, hr] at hp; cases hp
    · rw [s _ _ e c] at hp; cases hp
/-- one call is answered: the board has st', the reader stands at j -/
def NextOk (CB C CR : Addr) (H : Hp) (b r a : Addr) (j : Nat) (st' : Option Glued) (ans : List Int) (Q : VK) : Prop :=
  ∀ (H' : Hp) (p : Addr), But2 b r H H' → BoardAt CB C H' b st' → ReaderAt CR H' r a j → H p = none → H' p = some (.lst (zv ans)) → StOk st' → (∀ t o, H t = some o → BOff C t H b → BOff C t H' b) → Q (.ref p) H'
section
variable {CB C CR dr b r a : Addr} {k j : Nat} {H H3 : Hp} {st st' : Option Glued} {ans : List Int} {Q : VK}
theorem NextOk.does {ex : List Addr} (n : NextOk CB C CR H b r a j st' ans Q) (ok : StOk st') (kR : But r H H3) (hr : H r = some (.ins CR dr (rF a k))) (hb : BoardAt CB C H b st) (R3 : ReaderAt CR H3 r a j) (hex : ∀ t ∈ ex, H t = none) : Does CB C H3 b ex st' ans Q := by
  intro H' p k4 B4 np hp off
  have ne := b_ne_r hb hr
  obtain ⟨d3, hR3⟩ := R3
  refine n H' p (fun x o e n1 n2 => k4 x o (kR x o e n2) n1) B4 ⟨d3, k4 _ _ hR3 (Ne.symm ne)⟩ (kR.free hR3 np) hp ok (fun t o e bo => ?_)
  have h3 : ∃ o3, H3 t = some o3 := by
    by_cases c : t = r
    · rw [c]; exact ⟨_, hR3⟩
    · exact ⟨o, kR _ _ e c⟩
  obtain ⟨o3, e3⟩ := h3
  exact off t o3 e3 (fun z => by rw [hex t z] at e; cases e) (bo.butR kR hr hb)
theorem NextOk.tells (n : NextOk CB C CR H b r a j st ans Q) (ok : StOk st) (kR : But r H H3) (hr : H r = some (.ins CR dr (rF a k))) (hb : BoardAt CB C H b st) (R3 : ReaderAt CR H3 r a j) : Tells H3 ans Q := by
  intro H' p s4 np hp
  have hb3 := hb.butR kR hr
  exact (n.does (ex := []) ok kR hr hb R3 (fun t z => by cases z)) H' p (But.of s4) (hb3.same s4) np hp (fun t o e _ bo => bo.same hb3 s4)
end
theorem scNext : FnScope ["board", "reader", "number", "rows", "turn"] ["board", "reader"] (defScope sNext) := ⟨rfl, rfl, rfl, by decide +kernel, rfl, by decide +kernel, by decide +kernel⟩
theorem rowsOf_two {x : Nat} (h : x = 1 ∨ x = 12 ∨ x = 13) : rowsOf x = 2 := by rcases h with rfl | rfl | rfl <;> rfl
theorem rowsOf_one {x : Nat} (h : x = 8 ∨ x = 16) : rowsOf x = 1 := by rcases h with rfl | rfl <;> rfl
theorem rowsOf_none {x : Nat} (h : x = 2 ∨ x = 3 ∨ x = 4 ∨ x = 5 ∨ x = 6 ∨ x = 7 ∨ x = 9 ∨ x = 10 ∨ x = 11 ∨ x = 14 ∨ x = 15 ∨ x = 17) : rowsOf x = 0 := by
  rcases h with rfl | rfl | rfl | rfl | rfl | rfl | rfl | rfl | rfl | rfl | rfl | rfl <;> rfl
/-- a call that is no begin: its number, its rows -/
inductive Kind : Nat → List (List Nat) → Prop where
  | two {x : Nat} {l m : List Nat} : (x = 1 ∨ x = 12 ∨ x = 13) → Kind x [l, m]
  | one {x : Nat} {l : List Nat} : (x = 8 ∨ x = 16) → Kind x [l]
  | none {x : Nat} : (x = 2 ∨ x = 3 ∨ x = 4 ∨ x = 5 ∨ x = 6 ∨ x = 7 ∨ x = 9 ∨ x = 10 ∨ x = 11 ∨ x = 14 ∨ x = 15 ∨ x = 17) → Kind x []
theorem callAt_kind {cs : List Nat} {k j : Nat} {c : List (List Int)} (h : CallAt cs k c j) : (∃ n, cs[k]? = some 0 ∧ cs[k + 1]? = some n ∧ c = [[0, (n : Int)]] ∧ j = k + 2) ∨
    ∃ x ls pl, cs[k]? = some x ∧ x ≠ 0 ∧ rowsOf x = ls.length ∧ c = [(x : Int)] :: ls.map IntL ∧ RowsFrom cs (k + 1) j ls pl ∧ Kind x ls := by
  cases h with
  | begin_ e1 e2 => exact .inl ⟨_, e1, e2, rfl, rfl⟩
  | @two x l m j1 _ e hx R1 R2 =>
    obtain ⟨pl, R⟩ := rowsF_two R1 R2
    exact .inr ⟨x, [l, m], pl, e, by omega, rowsOf_two hx, rfl, R, .two hx⟩
  | @one x l _ e hx R1 =>
    obtain ⟨pl, R⟩ := rowsF_one R1
    exact .inr ⟨x, [l], pl, e, by omega, rowsOf_one hx, rfl, R, .one hx⟩
  | none e hx =>
    obtain ⟨pl, R⟩ := rowsF_nil (cs := cs) (k := k + 1)
    exact .inr ⟨_, [], pl, e, by omega, rowsOf_none hx, rfl, R, .none hx⟩
end Sq
set_option Elab.async false
set_option linter.unusedVariables false
set_option maxRecDepth 100000
set_option maxHeartbeats 4000000
namespace Sq
open PySem PySem.Spec PyProof.Rows L2
open Krct (Glued to from_ inverse cycleOf cycles name less isPerm)
open Krcv (Node)
section
variable {P : Program} {w : World} {K : PySem.W.Frag} {mg : Str → Option Value} {base : Heap} {C CB fB CR f0 f1 f2 f3 : Addr} {fdB fd0 fd1 fd2 fd3 : FuncData}
theorem ok_next {f fBe fC fG fD fF fA fO fT : Addr} {fd fdBe fdC fdG fdD fdF fdA fdO fdT : FuncData} (TB : BoardC K mg CB fB fdB) (TR : ReaderC K mg CR f0 f1 f2 f3 fd0 fd1 fd2 fd3) (B : Blt mg) (Z : Nums mg) (D : DefAt K mg "answer_next" sNext ["board", "reader"] f fd)
    (DBe : DefAt K mg "begin" sBegin ["board", "count"] fBe fdBe) (DC : DefAt K mg "count_rows" sRows ["number"] fC fdC) (DG : DefAt K mg "glue" sGlue ["board", "east", "north"] fG fdG) (DD : DefAt K mg "do_moves" sDo ["board", "moves"] fD fdD)
    (DF : DefAt K mg "tell_if_fixed" sFixed ["surface", "moves"] fF fdF) (DA : DefAt K mg "tell_of_another" sAnother ["surface", "number", "east", "north"] fA fdA) (DO : DefAt K mg "tell_of_orbit" sTellOrb ["surface", "number"] fO fdO) (DT : DefAt K mg "tell" sTell ["surface", "number"] fT fdT)
    (GBe : FnOk P w K mg base CX0 4 fBe fdBe ["board", "count"] (spBegin CB C)) (GC : FnOk P w K mg base CX0 1 fC fdC ["number"] spRows) (GG : FnOk P w K mg base CX0 5 fG fdG ["board", "east", "north"] (spGlue CB C)) (GD : FnOk P w K mg base CX0 6 fD fdD ["board", "moves"] (spDo CB C))
    (GF : FnOk P w K mg base CX0 6 fF fdF ["surface", "moves"] (spFixed C)) (GA : FnOk P w K mg base CX0 8 fA fdA ["surface", "number", "east", "north"] (spAnother C)) (GO : FnOk P w K mg base CX0 8 fO fdO ["surface", "number"] (spTellOrb C)) (GT : FnOk P w K mg base CX0 7 fT fdT ["surface", "number"] (spTell C)) :
    FnOk P w K mg base CX0 9 f fd ["board", "reader"] (spNext K CB C CR) := by
  have G2 : FnOk P w K mg base CX0 1 f2 fd2 ["self"] (spRdNum K CR) := ok_rdNum TR
  have G3 : FnOk P w K mg base CX0 2 f3 fd3 ["self"] (spRdRow K CR) := ok_rdRow TR
  refine D.F.ok scNext (fun vs H Q E h => ?_) (fun cdv A outer s0 H vs Q E hr h => ?_)
  · obtain ⟨b, r, a, st, cs, k, j, c, rfl, _⟩ := h
    rfl
  · obtain ⟨b, r, a, st, cs, k, j, c, rfl, hB, hSt, hR, hS, hC, q⟩ := h
    have nd := scNext.nd
    have hr1 := hr.mono (by decide : 1 ≤ 8)
    have hr2 := hr.mono (by decide : 2 ≤ 8)
    have hr4 := hr.mono (by decide : 4 ≤ 8)
    have hr5 := hr.mono (by decide : 5 ≤ 8)
    have hr6 := hr.mono (by decide : 6 ≤ 8)
    have hr7 := hr.mono (by decide : 7 ≤ 8)
    refine ⟨_, pss_cons (ps_set (i := 2) nd rfl (.inl rfl) (pe_meth0 (pv 1) TR.cl TR.m2 G2 hr1 TR.b2 .nil pass0))
      (pss_cons (ps_if (pt_cmpR op_eq (pv 2) (pe_cn Z.BEGIN (by rfl)) (nomark _)) (pss_one (ps_ret (pe_call GBe hr4 (by rfl) DBe.g DBe.F.kp DBe.b .nil pass0 (pa_cons (pv 0) (pa_cons (pe_meth0 (pv 1) TR.cl TR.m2 G2 hr1 TR.b2 .nil pass0) pa_nil))))) pss_nil)
      (pss_cons (ps_setLc (i := 3) (own := [("turn", 4)]) (g := gName 4) (tt := tYes) (te := tMeth CR "read_row" (spRdRow K CR) [] E0 (tVar 1) tNil) rfl nd rfl rfl (sw_true rfl rfl rfl (by decide +kernel))
        (pi_range1 (by rfl) B.range (pa_cons (pe_call GC hr1 (by rfl) DC.g DC.F.kp DC.b .nil pass0 (pa_cons (pv 2) pa_nil)) pa_nil))
        (blkOk_by (N := ["board", "reader", "number", "rows", "turn"]) (sc := defScope sNext) (by decide +kernel)) (fun _ _ _ _ _ => pg_name (i := 4) nd rfl (Or.inl rfl)) (fun _ _ _ _ _ => pts_nil)
        (fun _ _ _ _ _ => pe_meth0 (pv 1) TR.cl TR.m3 G3 hr2 TR.b3 .nil pass0))
      (pss_cons (ps_if (pt_cmpR op_isN (pe_fld (pv 0) rfl) pe_non (nomark _)) (pss_one (ps_ret (pe_lst (pa_cons (pe_cn Z.NOT_BEGUN (by rfl)) pa_nil)))) pss_nil)
      (pss_cons (ps_if (pt_cmpR op_eq (pv 2) (pe_cn Z.GLUE (by rfl)) (nomark _)) (pss_one (ps_ret (pe_call GG hr5 (by rfl) DG.g DG.F.kp DG.b .nil pass0 (pa_cons (pv 0) (pa_cons (pe_ix ix_list (pv 3) pe_int (fun _ _ => rfl)) (pa_cons (pe_ix ix_list (pv 3) pe_int (fun _ _ => rfl)) pa_nil)))))) pss_nil)
      (pss_cons (ps_if (pt_cmpR op_eq (pv 2) (pe_cn Z.DO (by rfl)) (nomark _)) (pss_one (ps_ret (pe_call GD hr6 (by rfl) DD.g DD.F.kp DD.b .nil pass0 (pa_cons (pv 0) (pa_cons (pe_ix ix_list (pv 3) pe_int (fun _ _ => rfl)) pa_nil))))) pss_nil)
      (pss_cons (ps_if (pt_cmpR op_eq (pv 2) (pe_cn Z.FIXES (by rfl)) (nomark _)) (pss_one (ps_ret (pe_call GF hr6 (by rfl) DF.g DF.F.kp DF.b .nil pass0 (pa_cons (pe_fld (pv 0) rfl) (pa_cons (pe_ix ix_list (pv 3) pe_int (fun _ _ => rfl)) pa_nil))))) pss_nil)
      (pss_cons (ps_if (pt_cmpR op_in_seq (pv 2) (pe_tup (pa_cons (pe_cn Z.WAY (by rfl)) (pa_cons (pe_cn Z.REACHES (by rfl)) pa_nil))) (by rfl)) (pss_one (ps_ret (pe_call GA hr (by rfl) DA.g DA.F.kp DA.b .nil pass0 (pa_cons (pe_fld (pv 0) rfl) (pa_cons (pv 2) (pa_cons (pe_ix ix_list (pv 3) pe_int (fun _ _ => rfl)) (pa_cons (pe_ix ix_list (pv 3) pe_int (fun _ _ => rfl)) pa_nil))))))) pss_nil)
      (pss_cons (ps_if (pt_cmpR op_in_seq (pv 2) (pe_tup (pa_cons (pe_cn Z.ORBIT (by rfl)) (pa_cons (pe_cn Z.WHEELS (by rfl)) (pa_cons (pe_cn Z.LEAST (by rfl)) (pa_cons (pe_cn Z.PLACE (by rfl)) pa_nil))))) (by rfl)) (pss_one (ps_ret (pe_call GO hr (by rfl) DO.g DO.F.kp DO.b .nil pass0 (pa_cons (pe_fld (pv 0) rfl) (pa_cons (pv 2) pa_nil))))) pss_nil)
      (pss_one (ps_ret (pe_call GT hr7 (by rfl) DT.g DT.F.kp DT.b .nil pass0 (pa_cons (pe_fld (pv 0) rfl) (pa_cons (pv 2) pa_nil))))))))))))), ?_⟩
    obtain ⟨dr, hR0⟩ := id hR
    have N : NextOk CB C CR H b r a j (KrcvNeutral.step st (PyKrcv.whole c)).1 (KrcvNeutral.step st (PyKrcv.whole c)).2 Q := q
    rcases callAt_kind hC with ⟨n, e0, e1, rfl, rfl⟩ | ⟨x, ls, pl, e0, hx0, hrow, rfl, RF, kd⟩
    · -- begin
      rw [step_begin] at N
      refine ⟨_, rfl, r, dr, _, rfl, hR0, rF_no _ _ (by decide +kernel) (by decide +kernel), r, a, k, 0, cs, rfl, hR, hS, e0, fun H1 k1 R1 => ?_⟩
      refine ⟨_, rfl, rfl, _, rfl, br_t (by decide) ?_⟩
      obtain ⟨dr1, hR1⟩ := id R1
      refine ⟨_, rfl, _, rfl, r, dr1, _, rfl, hR1, rF_no _ _ (by decide +kernel) (by decide +kernel), r, a, k + 1, n, cs, rfl, R1, seq_but k1 hR0 hS, e1, fun H2 k2 R2 => ?_⟩
      have k12 := k1.trans k2
      refine ⟨b, n, st, rfl, hB.butR k12 hR0, ?_⟩
      refine N.does ?_ k12 hR0 hB R2 (fun t z => by cases z)
      intro g eg
      unfold beginOf at eg
      by_cases c : (n = 0 || decide (6 < n)) = true
      · rw [if_pos c] at eg; exact hSt g eg
      · rw [if_neg c] at eg
        simp only [Bool.or_eq_true, decide_eq_true_eq, not_or] at c
        have e : Krct.row n = g := Option.some.inj eg
        rw [← e]
        exact ⟨row_ok n (by omega) (by omega), by show n ≤ 6; omega⟩
    · refine ⟨_, rfl, r, dr, _, rfl, hR0, rF_no _ _ (by decide +kernel) (by decide +kernel), r, a, k, x, cs, rfl, hR, hS, e0, fun H1 k1 R1 => ?_⟩
      refine ⟨_, rfl, rfl, _, rfl, br_f (decide_eq_false (fun z => by injection z with z; omega)) ?_⟩
      refine ⟨_, rfl, x, rfl, fun H2 s2 => ?_⟩
      have k2 : But r H H2 := k1.trans (But.of s2)
      have hl3 : ls.length ≤ 2 := by cases kd <;> simp
      refine ⟨(rowsOf x : Int), rfl, by omega, by rw [hrow]; omega, fun t ht => ?_⟩
      have nt : H t = none := by
        obtain ⟨d1, h1⟩ := id R1
        exact k2.free (s2 _ _ h1) ht
      rw [hrow]
      refine lc_range (lo := 0) (n := ls.length) (fun i H' => ∃ rs : List Addr, But r H H' ∧ ReaderAt CR H' r a (pl i) ∧ H' t = some (.lst (rs.map V.ref)) ∧ RowsAt H' rs (ls.take i) ∧ ∀ y ∈ rs, H y = none) ?_ ?_ ?_
      · obtain ⟨d1, h1⟩ := id R1
        refine ⟨[], k2.trans (But.of (same_upd ht)), ?_, upd_same, RowsAt.nil, fun y hy => by cases hy⟩
        rw [RF.zero]
        exact ⟨d1, same_upd ht _ _ (s2 _ _ h1)⟩
      · rintro i H' hi ⟨rs, kH, R3, ht3, W3, new3⟩
        rw [Int.zero_add]
        refine ⟨rfl, yes_then ?_⟩
        obtain ⟨l, hl⟩ : ∃ l, ls[i]? = some l := ⟨_, List.getElem?_eq_getElem hi⟩
        have RR := RF.row i l hl
        obtain ⟨d3, h3⟩ := id R3
        refine ⟨_, rfl, r, d3, _, rfl, h3, rF_no _ _ (by decide +kernel) (by decide +kernel), r, a, pl i, l.length, cs, rfl, R3, seq_but kH hR0 hS, RR.m, RR.le, fun H4 p k4 R4 np hp => ?_⟩
        rw [← RR.is] at hp
        rw [← RR.to] at R4
        obtain ⟨d4, h4⟩ := id R4
        have tr : t ≠ r := fun z => by rw [z, h3] at ht3; cases ht3
        have ht4 := k4 _ _ ht3 tr
        have pt : p ≠ t := fun z => by rw [z, ht3] at np; cases np
        refine ⟨_, ht4, ?_, rs ++ [p], ?_, ⟨d4, ?_⟩, ?_, ?_, ?_⟩
        · rw [List.length_map, W3.1, List.length_take]; exact lt_size (by omega)
        · intro y o ey ny
          rw [upd_ne (ne_of_none ey nt)]
          exact k4 _ _ (kH _ _ ey ny) ny
        · rw [upd_ne (Ne.symm tr)]; exact h4
        · rw [upd_same, List.map_append]; rfl
        · have e : ls.take (i + 1) = ls.take i ++ [l] := by rw [List.take_add_one, hl]; rfl
          rw [e]
          have W4 : RowsAt (upd H4 t (.lst (rs.map V.ref ++ [V.ref p]))) rs (ls.take i) := ⟨W3.1, fun j' r' l' a1 b1 => by
            have h9 := W3.2 j' r' l' a1 b1
            have n1 : r' ≠ t := fun z => by
              rw [z] at h9
              have e9 := ht3.symm.trans h9
              injection e9 with e9
              injection e9 with e9
              exact refs_ne a1 e9
            have n2 : r' ≠ r := fun z => by rw [z, h3] at h9; cases h9
            rw [upd_ne n1]; exact k4 _ _ h9 n2⟩
          exact W4.snoc (by rw [upd_ne pt]; exact hp)
        · intro y hy
          rcases List.mem_append.mp hy with z | z
          · exact new3 y z
          · simp at z; subst z; exact kH.free h3 np
      · rintro H4 ⟨rs, k4, R4, ht4, W4, new4⟩
        rw [RF.last] at R4
        rw [List.take_length] at W4
        have B4 := hB.butR k4 hR0
        cases st with
        | none =>
          obtain ⟨db, v, hb, rfl⟩ := id B4
          refine ⟨_, rfl, b, CB, db, bF .non, _, rfl, hb, TB.cl, TB.nS, bF_look _, rfl, _, rfl, br_t rfl ?_⟩
          rw [step_none hC (by rw [e0]; intro z; exact hx0 (Option.some.inj z))] at N
          exact ⟨le_size (by simp), fun p hp => (N.tells hSt k4 hR0 hB R4).say (Same.refl _) hp⟩
        | some g =>
          obtain ⟨og, hn⟩ := hSt g rfl
          obtain ⟨db, v, hb, sa, rfl, S4⟩ := id B4
          refine ⟨_, rfl, b, CB, db, bF (.ref sa), _, rfl, hb, TB.cl, TB.nS, bF_look _, rfl, _, rfl, br_f rfl ?_⟩
          refine ⟨_, rfl, rfl, _, rfl, ?_⟩
          cases kd with
          | @two l m hx =>
            obtain ⟨r0, r1, rfl⟩ : ∃ r0 r1, rs = [r0, r1] := by
              have := W4.1
              match rs, this with
              | [r0, r1], _ => exact ⟨r0, r1, rfl⟩
            have w0 : H4 r0 = some (.lst (nv l)) := W4.2 0 r0 l rfl rfl
            have w1 : H4 r1 = some (.lst (nv m)) := W4.2 1 r1 m rfl rfl
            have ix0 : atI (List.map V.ref [r0, r1]) 0 = some (V.ref r0) := atI_nat (j := 0) rfl
            have ix1 : atI (List.map V.ref [r0, r1]) 1 = some (V.ref r1) := atI_nat (j := 1) rfl
            rcases hx with rfl | rfl | rfl
            · have N' : NextOk CB C CR H b r a j (glueOf g l m).1 (glueOf g l m).2 Q := by rw [← step_glue]; exact N
              refine br_t (by decide) ?_
              refine ⟨_, rfl, _, rfl, t, _, _, _, rfl, rfl, SqL.of ht4, ix0, _, rfl, t, _, _, _, rfl, rfl, SqL.of ht4, ix1, b, r0, r1, g, l, m, rfl, B4, og, hn, w0, w1, ?_⟩
              refine N'.does ?_ k4 hR0 hB R4 (fun y hy => new4 y hy)
              intro g' eg
              unfold glueOf at eg
              by_cases c : refusal g.n l m = 0
              · rw [if_pos c] at eg
                have e : (⟨g.n, l, m⟩ : Glued) = g' := Option.some.inj eg
                rw [← e]
                exact ⟨refusal_zero og.pos c, hn⟩
              · rw [if_neg c] at eg; exact hSt g' eg
            · have N' : NextOk CB C CR H b r a j (some g) (otherAns g 12 l m) Q := by
                have e := step_way g l m
                have N2 : NextOk CB C CR H b r a j (KrcvNeutral.step (some g) (PyKrcv.whole [[((12 : Nat) : Int)], IntL l, IntL m])).1 (KrcvNeutral.step (some g) (PyKrcv.whole [[((12 : Nat) : Int)], IntL l, IntL m])).2 Q := N
                rw [e] at N2; exact N2
              refine br_f (by decide) ?_
              iterate 2 refine ⟨_, rfl, rfl, _, rfl, br_f (by decide) ?_⟩
              refine ⟨_, rfl, by show 2 ≤ sizeLine; decide, fun u hu => ?_⟩
              refine ⟨u, nv [12, 13], rfl, .inr (SqT.of upd_same), rfl, flat_nv _, _, rfl, ?_⟩
              rw [inV_nv]
              refine br_t (by decide) ?_
              have s5 : Same H4 (upd H4 u (.tup (nv [12, 13]))) := same_upd hu
              refine ⟨_, rfl, b, CB, db, bF (.ref sa), _, rfl, s5 _ _ hb, TB.cl, TB.nS, bF_look _, _, rfl, _, rfl, t, _, _, _, rfl, rfl, SqL.of (s5 _ _ ht4), ix0, _, rfl, t, _, _, _, rfl, rfl, SqL.of (s5 _ _ ht4), ix1, sa, r0, r1, 12, g, l, m, rfl, .inl rfl, S4.same s5, og, hn, s5 _ _ w0, s5 _ _ w1, ?_⟩
              exact fun H5 p s6 np hp => N'.tells hSt k4 hR0 hB R4 H5 p (s5.trans s6) (s5.free np) hp
            · have N' : NextOk CB C CR H b r a j (some g) (otherAns g 13 l m) Q := by
                have e := step_reaches g l m
                have N2 : NextOk CB C CR H b r a j (KrcvNeutral.step (some g) (PyKrcv.whole [[((13 : Nat) : Int)], IntL l, IntL m])).1 (KrcvNeutral.step (some g) (PyKrcv.whole [[((13 : Nat) : Int)], IntL l, IntL m])).2 Q := N
                rw [e] at N2; exact N2
              refine br_f (by decide) ?_
              iterate 2 refine ⟨_, rfl, rfl, _, rfl, br_f (by decide) ?_⟩
              refine ⟨_, rfl, by show 2 ≤ sizeLine; decide, fun u hu => ?_⟩
              refine ⟨u, nv [12, 13], rfl, .inr (SqT.of upd_same), rfl, flat_nv _, _, rfl, ?_⟩
              rw [inV_nv]
              refine br_t (by decide) ?_
              have s5 : Same H4 (upd H4 u (.tup (nv [12, 13]))) := same_upd hu
              refine ⟨_, rfl, b, CB, db, bF (.ref sa), _, rfl, s5 _ _ hb, TB.cl, TB.nS, bF_look _, _, rfl, _, rfl, t, _, _, _, rfl, rfl, SqL.of (s5 _ _ ht4), ix0, _, rfl, t, _, _, _, rfl, rfl, SqL.of (s5 _ _ ht4), ix1, sa, r0, r1, 13, g, l, m, rfl, .inr rfl, S4.same s5, og, hn, s5 _ _ w0, s5 _ _ w1, ?_⟩
              exact fun H5 p s6 np hp => N'.tells hSt k4 hR0 hB R4 H5 p (s5.trans s6) (s5.free np) hp
          | @one l hx =>
            obtain ⟨r0, rfl⟩ : ∃ r0, rs = [r0] := by
              have := W4.1
              match rs, this with
              | [r0], _ => exact ⟨r0, rfl⟩
            have w0 : H4 r0 = some (.lst (nv l)) := W4.2 0 r0 l rfl rfl
            have ix0 : atI (List.map V.ref [r0]) 0 = some (V.ref r0) := atI_nat (j := 0) rfl
            rcases hx with rfl | rfl
            · have N' : NextOk CB C CR H b r a j (doOf g l).1 (doOf g l).2 Q := by rw [← step_do]; exact N
              refine br_f (by decide) ?_
              refine ⟨_, rfl, rfl, _, rfl, br_t (by decide) ?_⟩
              refine ⟨_, rfl, _, rfl, t, _, _, _, rfl, rfl, SqL.of ht4, ix0, b, r0, g, l, rfl, B4, og, hn, w0, ?_⟩
              refine N'.does ?_ k4 hR0 hB R4 (fun y hy => by cases hy)
              intro g' eg
              unfold doOf at eg
              cases c : Krcv.moveOk l with
              | true =>
                rw [c] at eg
                have e : Krcv.apply g l = g' := Option.some.inj eg
                obtain ⟨o1, o2⟩ := apply_gl og l
                rw [← e]
                exact ⟨o1, by rw [o2]; exact hn⟩
              | false => rw [c] at eg; exact hSt g' eg
            · have N' : NextOk CB C CR H b r a j (some g) (fixAns g l) Q := by
                have e := step_fixes g l
                have N2 : NextOk CB C CR H b r a j (KrcvNeutral.step (some g) (PyKrcv.whole [[((16 : Nat) : Int)], IntL l])).1 (KrcvNeutral.step (some g) (PyKrcv.whole [[((16 : Nat) : Int)], IntL l])).2 Q := N
                rw [e] at N2; exact N2
              refine br_f (by decide) ?_
              refine ⟨_, rfl, rfl, _, rfl, br_f (by decide) ?_⟩
              refine ⟨_, rfl, rfl, _, rfl, br_t (by decide) ?_⟩
              refine ⟨_, rfl, b, CB, db, bF (.ref sa), _, rfl, hb, TB.cl, TB.nS, bF_look _, _, rfl, t, _, _, _, rfl, rfl, SqL.of ht4, ix0, sa, r0, g, l, rfl, S4, og, hn, w0, ?_⟩
              exact N'.tells hSt k4 hR0 hB R4
          | none hx =>
            have h1 : x ≠ 1 ∧ x ≠ 8 ∧ x ≠ 16 ∧ ([12, 13] : List Nat).contains x = false := by
              rcases hx with rfl | rfl | rfl | rfl | rfl | rfl | rfl | rfl | rfl | rfl | rfl | rfl <;> decide
            refine br_f (decide_eq_false (fun z => by injection z with z; omega)) ?_
            refine ⟨_, rfl, rfl, _, rfl, br_f (decide_eq_false (fun z => by injection z with z; omega)) ?_⟩
            refine ⟨_, rfl, rfl, _, rfl, br_f (decide_eq_false (fun z => by injection z with z; omega)) ?_⟩
            refine ⟨_, rfl, by show 2 ≤ sizeLine; decide, fun u hu => ?_⟩
            refine ⟨u, nv [12, 13], rfl, .inr (SqT.of upd_same), rfl, flat_nv _, _, rfl, ?_⟩
            rw [inV_nv]
            refine br_f h1.2.2.2 ?_
            have s5 : Same H4 (upd H4 u (.tup (nv [12, 13]))) := same_upd hu
            refine ⟨_, rfl, by show 4 ≤ sizeLine; decide, fun u2 hu2 => ?_⟩
            refine ⟨u2, nv [9, 10, 14, 15], rfl, .inr (SqT.of upd_same), rfl, flat_nv _, _, rfl, ?_⟩
            rw [inV_nv]
            have s6 : Same H4 (upd (upd H4 u (.tup (nv [12, 13]))) u2 (.tup (nv [9, 10, 14, 15]))) := s5.trans (same_upd hu2)
            have hx2 : (x = 9 ∨ x = 10 ∨ x = 14 ∨ x = 15) ∨ (x = 2 ∨ x = 3 ∨ x = 4 ∨ x = 5 ∨ x = 6 ∨ x = 7 ∨ x = 11 ∨ x = 17) := by omega
            rcases hx2 with hx2 | hx2
            · refine br_t (by rcases hx2 with rfl | rfl | rfl | rfl <;> decide) ?_
              have N' : NextOk CB C CR H b r a j (some g) (orbAns g x) Q := by
                have N2 : NextOk CB C CR H b r a j (KrcvNeutral.step (some g) (PyKrcv.whole [[(x : Int)]])).1 (KrcvNeutral.step (some g) (PyKrcv.whole [[(x : Int)]])).2 Q := N
                rw [step_orb g hx2] at N2; exact N2
              refine ⟨_, rfl, b, CB, db, bF (.ref sa), _, rfl, s6 _ _ hb, TB.cl, TB.nS, bF_look _, _, rfl, sa, x, g, rfl, hx2, S4.same s6, og, hn, ?_⟩
              exact fun H7 p s7 np hp => N'.tells hSt k4 hR0 hB R4 H7 p (s6.trans s7) (s6.free np) hp
            · refine br_f (by rcases hx2 with rfl | rfl | rfl | rfl | rfl | rfl | rfl | rfl <;> decide) ?_
              have N' : NextOk CB C CR H b r a j (some g) (tellAns g x) Q := by
                have N2 : NextOk CB C CR H b r a j (KrcvNeutral.step (some g) (PyKrcv.whole [[(x : Int)]])).1 (KrcvNeutral.step (some g) (PyKrcv.whole [[(x : Int)]])).2 Q := N
                rw [step_tell g hx2] at N2; exact N2
              refine ⟨_, rfl, b, CB, db, bF (.ref sa), _, rfl, s6 _ _ hb, TB.cl, TB.nS, bF_look _, _, rfl, sa, x, g, rfl, hx2, S4.same s6, og, hn, ?_⟩
              exact fun H7 p s7 np hp => N'.tells hSt k4 hR0 hB R4 H7 p (s6.trans s7) (s6.free np) hp
end
end Sq
set_option Elab.async false
set_option linter.unusedVariables false
set_option maxRecDepth 100000
set_option maxHeartbeats 4000000
namespace Sq
open PySem PySem.Spec PyProof.Rows L2
/-! ### what the top has written -/
def dd0 : He.FnD := ⟨("backwards", none), "backwards", "backwards", defArgs sBackwards, defBody sBackwards, defScope sBackwards⟩
def dd1 : He.FnD := ⟨("round_from", none), "round_from", "round_from", defArgs sRound, defBody sRound, defScope sRound⟩
def dd2 : He.FnD := ⟨("round_lengths", none), "round_lengths", "round_lengths", defArgs sLengths, defBody sLengths, defScope sLengths⟩
def dd3 : He.FnD := ⟨("once_round", none), "once_round", "once_round", defArgs sOnce, defBody sOnce, defScope sOnce⟩
def dd4 : He.FnD := ⟨("corner_lengths", none), "corner_lengths", "corner_lengths", defArgs sCorn, defBody sCorn, defScope sCorn⟩
def dd5 : He.FnD := ⟨("count_holes", none), "count_holes", "count_holes", defArgs sHoles, defBody sHoles, defScope sHoles⟩
def dd6 : He.FnD := ⟨("order_from", none), "order_from", "order_from", defArgs sOrder, defBody sOrder, defScope sOrder⟩
def dd7 : He.FnD := ⟨("hangs_together", none), "hangs_together", "hangs_together", defArgs sHangs, defBody sHangs, defScope sHangs⟩
def dd8 : He.FnD := ⟨("renamed", none), "renamed", "renamed", defArgs sRenamed, defBody sRenamed, defScope sRenamed⟩
def dd9 : He.FnD := ⟨("all_renamed", none), "all_renamed", "all_renamed", defArgs sAll, defBody sAll, defScope sAll⟩
def dd10 : He.FnD := ⟨("name_of", none), "name_of", "name_of", defArgs sName, defBody sName, defScope sName⟩
def dd11 : He.FnD := ⟨("count_selves", none), "count_selves", "count_selves", defArgs sSelves, defBody sSelves, defScope sSelves⟩
def dd12 : He.FnD := ⟨("moved", none), "moved", "moved", defArgs sMoved, defBody sMoved, defScope sMoved⟩
def dd13 : He.FnD := ⟨("all_moved", none), "all_moved", "all_moved", defArgs sAllMoved, defBody sAllMoved, defScope sAllMoved⟩
def dd14 : He.FnD := ⟨("same_but_for_names", none), "same_but_for_names", "same_but_for_names", defArgs sSame, defBody sSame, defScope sSame⟩
def dd15 : He.FnD := ⟨("has_too_many", none), "has_too_many", "has_too_many", defArgs sTooMany, defBody sTooMany, defScope sTooMany⟩
def dd16 : He.FnD := ⟨("add_moved", none), "add_moved", "add_moved", defArgs sAdd, defBody sAdd, defScope sAdd⟩
def dd17 : He.FnD := ⟨("orbit_of", none), "orbit_of", "orbit_of", defArgs sOrbitOf, defBody sOrbitOf, defScope sOrbitOf⟩
def dd18 : He.FnD := ⟨("count_less", none), "count_less", "count_less", defArgs sLess, defBody sLess, defScope sLess⟩
def dd19 : He.FnD := ⟨("wheel_lengths", none), "wheel_lengths", "wheel_lengths", defArgs sWheels, defBody sWheels, defScope sWheels⟩
def dd20 : He.FnD := ⟨("wheel_length", none), "wheel_length", "wheel_length", defArgs sWheelLen, defBody sWheelLen, defScope sWheelLen⟩
def dd21 : He.FnD := ⟨("tells_all_once", none), "tells_all_once", "tells_all_once", defArgs sOnceAll, defBody sOnceAll, defScope sOnceAll⟩
def dd22 : He.FnD := ⟨("refusal_of_tables", none), "refusal_of_tables", "refusal_of_tables", defArgs sRefusal, defBody sRefusal, defScope sRefusal⟩
def dd23 : He.FnD := ⟨("are_moves", none), "are_moves", "are_moves", defArgs sAre, defBody sAre, defScope sAre⟩
def dd24 : He.FnD := ⟨("counted", none), "counted", "counted", defArgs sCounted, defBody sCounted, defScope sCounted⟩
def dd25 : He.FnD := ⟨("begin", none), "begin", "begin", defArgs sBegin, defBody sBegin, defScope sBegin⟩
def dd26 : He.FnD := ⟨("glue", none), "glue", "glue", defArgs sGlue, defBody sGlue, defScope sGlue⟩
def dd27 : He.FnD := ⟨("do_moves", none), "do_moves", "do_moves", defArgs sDo, defBody sDo, defScope sDo⟩
def dd28 : He.FnD := ⟨("tell_if_fixed", none), "tell_if_fixed", "tell_if_fixed", defArgs sFixed, defBody sFixed, defScope sFixed⟩
def dd29 : He.FnD := ⟨("tell_of_orbit", none), "tell_of_orbit", "tell_of_orbit", defArgs sTellOrb, defBody sTellOrb, defScope sTellOrb⟩
def dd30 : He.FnD := ⟨("tell_of_another", none), "tell_of_another", "tell_of_another", defArgs sAnother, defBody sAnother, defScope sAnother⟩
def dd31 : He.FnD := ⟨("tell", none), "tell", "tell", defArgs sTell, defBody sTell, defScope sTell⟩
def dd32 : He.FnD := ⟨("count_rows", none), "count_rows", "count_rows", defArgs sRows, defBody sRows, defScope sRows⟩
def dd33 : He.FnD := ⟨("answer_next", none), "answer_next", "answer_next", defArgs sNext, defBody sNext, defScope sNext⟩
def dd34 : He.FnD := ⟨("answers", none), "answers", "answers", defArgs sAnswers, defBody sAnswers, defScope sAnswers⟩
def dd35 : He.FnD := ⟨("Surface", some "__init__"), "__init__", "Surface.__init__", defArgs sSurf, defBody sSurf, defScope sSurf⟩
def dd36 : He.FnD := ⟨("Orbit", some "__init__"), "__init__", "Orbit.__init__", defArgs sOrbInit, defBody sOrbInit, defScope sOrbInit⟩
def dd37 : He.FnD := ⟨("Board", some "__init__"), "__init__", "Board.__init__", defArgs sBoard, defBody sBoard, defScope sBoard⟩
def dd38 : He.FnD := ⟨("Reader", some "__init__"), "__init__", "Reader.__init__", defArgs sRdInit, defBody sRdInit, defScope sRdInit⟩
def dd39 : He.FnD := ⟨("Reader", some "ended"), "ended", "Reader.ended", defArgs sRdEnded, defBody sRdEnded, defScope sRdEnded⟩
def dd40 : He.FnD := ⟨("Reader", some "read_number"), "read_number", "Reader.read_number", defArgs sRdNum, defBody sRdNum, defScope sRdNum⟩
def dd41 : He.FnD := ⟨("Reader", some "read_row"), "read_row", "Reader.read_row", defArgs sRdRow, defBody sRdRow, defScope sRdRow⟩
def fnL : List He.FnD := [dd0, dd1, dd2, dd3, dd4, dd5, dd6, dd7, dd8, dd9, dd10, dd11, dd12, dd13, dd14, dd15, dd16, dd17, dd18, dd19, dd20, dd21, dd22, dd23, dd24, dd25, dd26, dd27, dd28, dd29, dd30, dd31, dd32, dd33, dd34, dd35, dd36, dd37, dd38, dd39, dd40, dd41]
def fa0 : List He.Fa := [.glo "backwards", .glo "round_from", .glo "round_lengths", .glo "once_round", .glo "corner_lengths", .glo "count_holes", .glo "order_from", .glo "hangs_together", .glo "renamed", .glo "all_renamed", .glo "name_of", .glo "count_selves", .glo "moved", .glo "all_moved", .glo "same_but_for_names", .glo "has_too_many", .glo "add_moved", .glo "orbit_of", .glo "count_less", .glo "wheel_lengths", .glo "wheel_length", .glo "tells_all_once", .glo "refusal_of_tables", .glo "are_moves", .glo "counted", .glo "begin", .glo "glue", .glo "do_moves", .glo "tell_if_fixed", .glo "tell_of_orbit"]
def fa1 : List He.Fa := [.glo "tell_of_another", .glo "tell", .glo "count_rows", .glo "answer_next", .glo "answers", .keep "backwards", .keep "round_from", .keep "round_lengths", .keep "once_round", .keep "corner_lengths", .keep "count_holes", .keep "order_from", .keep "hangs_together", .keep "renamed", .keep "all_renamed", .keep "name_of", .keep "count_selves", .keep "moved", .keep "all_moved", .keep "same_but_for_names", .keep "has_too_many", .keep "add_moved", .keep "orbit_of", .keep "count_less", .keep "wheel_lengths", .keep "wheel_length", .keep "tells_all_once", .keep "refusal_of_tables", .keep "are_moves", .keep "counted"]
def fa2 : List He.Fa := [.keep "begin", .keep "glue", .keep "do_moves", .keep "tell_if_fixed", .keep "tell_of_orbit", .keep "tell_of_another", .keep "tell", .keep "count_rows", .keep "answer_next", .keep "answers", .glo "Surface", .cls "Surface", .mkr "Surface", .noat "Surface" "east", .noat "Surface" "north", .noat "Surface" "west", .noat "Surface" "south", .glo "Orbit", .cls "Orbit", .mkr "Orbit", .noat "Orbit" "names", .noat "Orbit" "surfaces", .noat "Orbit" "ways", .glo "Board", .cls "Board", .mkr "Board", .noat "Board" "surface", .glo "Reader", .cls "Reader", .mkr "Reader"]
def fa3 : List He.Fa := [.noat "Reader" "numbers", .noat "Reader" "place", .meth "Surface" "__init__", .meth "Orbit" "__init__", .meth "Board" "__init__", .meth "Reader" "__init__", .meth "Reader" "ended", .meth "Reader" "read_number", .meth "Reader" "read_row", .int "BEGIN" (0), .int "GLUE" (1), .int "CORNERS" (2), .int "HOLES" (3), .int "ROWS" (4), .int "NAME" (5), .int "SELVES" (6), .int "STATE" (7), .int "DO" (8), .int "ORBIT" (9), .int "WHEELS" (10), .int "WHEEL" (11), .int "WAY" (12), .int "REACHES" (13), .int "LEAST" (14), .int "PLACE" (15), .int "FIXES" (16), .int "NOT_BEGUN" (-11), .int "NOT_RIGHT" (-22), .int "NOT_TOGETHER" (-33), .int "NO_WAY" (-34)]
def fa4 : List He.Fa := [.int "TOO_MANY" (-75), .int "SHEARED" (0), .int "SHEARED_BACK" (1), .int "TURNED" (2), .int "MOST_SQUARES" (6), .int "MOST_MOVES" (30), .int "MOST_NAMES" (120), .free "len", .free "enumerate", .free "range", .free "min", .free "max", .free "sorted", .free "list"]
def faL : List He.Fa := fa0 ++ fa1 ++ fa2 ++ fa3 ++ fa4
section
variable {K : PySem.W.Frag} {mg : Str → Option Value} {h : Heap}
theorem defAt_of {x : Str} {st : Stmt} {ps : List Str} (X : K.In h) (G : h.Ns mainGlobals mg) (c1 : (He.Fa.glo x).ok K = true) (c2 : (He.Fa.keep x).ok K = true)
    (c3 : ∃ oc od osl kV doc pm an cdv ct, K.lookup (He.ga K x) = some ⟨oc, od, .func (PySem.W.fnOf x x (defArgs st) (defBody st) (defScope st) .none kV doc pm an cdv ct), osl⟩ ∧ PySem.W.codeIn K cdv x = true)
    (hb : ∀ (kV doc pm : Value) (an : Option Addr) (cdv ct : Value) (us : List Value), us.length = ps.length → bindArgs (PySem.W.fnOf x x (defArgs st) (defBody st) (defScope st) .none kV doc pm an cdv ct) ⟨us, []⟩ = pure (ps.zip us)) :
    ∃ fd, DefAt K mg x st ps (He.ga K x) fd := by
  obtain ⟨oc, od, osl, kV, doc, pm, an, cdv, ct, l, c⟩ := c3
  have F := fun_mk (st := st) l c (He.keep_ok c2)
  exact ⟨_, F, F.binds hb, He.glo_ok X G c1⟩
theorem methAt_of {C x qn : Str} {st : Stmt} {ps : List Str} (c1 : (He.Fa.meth C x).ok K = true)
    (c3 : ∃ oc od osl kV doc pm an cdv ct, K.lookup (He.ma K (He.ga K C) x) = some ⟨oc, od, .func (PySem.W.fnOf x qn (defArgs st) (defBody st) (defScope st) .none kV doc pm an cdv ct), osl⟩ ∧ PySem.W.codeIn K cdv qn = true)
    (hb : ∀ (kV doc pm : Value) (an : Option Addr) (cdv ct : Value) (us : List Value), us.length = ps.length → bindArgs (PySem.W.fnOf x qn (defArgs st) (defBody st) (defScope st) .none kV doc pm an cdv ct) ⟨us, []⟩ = pure (ps.zip us)) :
    ∃ fd, Fun K x qn st (He.ma K (He.ga K C) x) fd ∧ Binds K fd ps [] := by
  obtain ⟨oc, od, osl, kV, doc, pm, an, cdv, ct, l, c⟩ := c3
  have F := fun_mk (st := st) l c (He.meth_ok c1).kp
  exact ⟨_, F, F.binds hb⟩
end
section
variable {P : Program} {w : World} {K : PySem.W.Frag} {mg : Str → Option Value} {h : Heap}
theorem all_mk (X : K.In h) (G : h.Ns mainGlobals mg) {fa : Addr} (hfa : mg ("answers" : Str) = some (.ref fa)) (c : He.SaysE faL fnL K) :
    ∃ fd : FuncData, (∀ (s : Shared) (us : List Value), us.length = (["calls"] : List Str).length → BindsTo s fd ⟨us, []⟩ ((["calls"] : List Str).zip us)) ∧ ∀ base : Heap, K.In base → base.Ns mainGlobals mg → FnOk P w K mg base CX0 10 fa fd ["calls"] (spAnswers K) := by
  obtain ⟨fd0, D0⟩ := defAt_of (x := "backwards") (st := sBackwards) (ps := ["steps"]) X G (c.fact 0 rfl) (c.fact 35 rfl) (c.def_ 0 (d := dd0) rfl) (fun _ _ _ _ _ _ us hl => match us, hl with | [_], _ => rfl)
  obtain ⟨fd1, D1⟩ := defAt_of (x := "round_from") (st := sRound) (ps := ["first", "steps"]) X G (c.fact 1 rfl) (c.fact 36 rfl) (c.def_ 1 (d := dd1) rfl) (fun _ _ _ _ _ _ us hl => match us, hl with | [_, _], _ => rfl)
  obtain ⟨fd2, D2⟩ := defAt_of (x := "round_lengths") (st := sLengths) (ps := ["steps"]) X G (c.fact 2 rfl) (c.fact 37 rfl) (c.def_ 2 (d := dd2) rfl) (fun _ _ _ _ _ _ us hl => match us, hl with | [_], _ => rfl)
  obtain ⟨fd3, D3⟩ := defAt_of (x := "once_round") (st := sOnce) (ps := ["surface"]) X G (c.fact 3 rfl) (c.fact 38 rfl) (c.def_ 3 (d := dd3) rfl) (fun _ _ _ _ _ _ us hl => match us, hl with | [_], _ => rfl)
  obtain ⟨fd4, D4⟩ := defAt_of (x := "corner_lengths") (st := sCorn) (ps := ["surface"]) X G (c.fact 4 rfl) (c.fact 39 rfl) (c.def_ 4 (d := dd4) rfl) (fun _ _ _ _ _ _ us hl => match us, hl with | [_], _ => rfl)
  obtain ⟨fd5, D5⟩ := defAt_of (x := "count_holes") (st := sHoles) (ps := ["surface"]) X G (c.fact 5 rfl) (c.fact 40 rfl) (c.def_ 5 (d := dd5) rfl) (fun _ _ _ _ _ _ us hl => match us, hl with | [_], _ => rfl)
  obtain ⟨fd6, D6⟩ := defAt_of (x := "order_from") (st := sOrder) (ps := ["square", "surface"]) X G (c.fact 6 rfl) (c.fact 41 rfl) (c.def_ 6 (d := dd6) rfl) (fun _ _ _ _ _ _ us hl => match us, hl with | [_, _], _ => rfl)
  obtain ⟨fd7, D7⟩ := defAt_of (x := "hangs_together") (st := sHangs) (ps := ["surface"]) X G (c.fact 7 rfl) (c.fact 42 rfl) (c.def_ 7 (d := dd7) rfl) (fun _ _ _ _ _ _ us hl => match us, hl with | [_], _ => rfl)
  obtain ⟨fd8, D8⟩ := defAt_of (x := "renamed") (st := sRenamed) (ps := ["order", "surface"]) X G (c.fact 8 rfl) (c.fact 43 rfl) (c.def_ 8 (d := dd8) rfl) (fun _ _ _ _ _ _ us hl => match us, hl with | [_, _], _ => rfl)
  obtain ⟨fd9, D9⟩ := defAt_of (x := "all_renamed") (st := sAll) (ps := ["surface"]) X G (c.fact 9 rfl) (c.fact 44 rfl) (c.def_ 9 (d := dd9) rfl) (fun _ _ _ _ _ _ us hl => match us, hl with | [_], _ => rfl)
  obtain ⟨fd10, D10⟩ := defAt_of (x := "name_of") (st := sName) (ps := ["surface"]) X G (c.fact 10 rfl) (c.fact 45 rfl) (c.def_ 10 (d := dd10) rfl) (fun _ _ _ _ _ _ us hl => match us, hl with | [_], _ => rfl)
  obtain ⟨fd11, D11⟩ := defAt_of (x := "count_selves") (st := sSelves) (ps := ["surface"]) X G (c.fact 11 rfl) (c.fact 46 rfl) (c.def_ 11 (d := dd11) rfl) (fun _ _ _ _ _ _ us hl => match us, hl with | [_], _ => rfl)
  obtain ⟨fd12, D12⟩ := defAt_of (x := "moved") (st := sMoved) (ps := ["move", "surface"]) X G (c.fact 12 rfl) (c.fact 47 rfl) (c.def_ 12 (d := dd12) rfl) (fun _ _ _ _ _ _ us hl => match us, hl with | [_, _], _ => rfl)
  obtain ⟨fd13, D13⟩ := defAt_of (x := "all_moved") (st := sAllMoved) (ps := ["moves", "surface"]) X G (c.fact 13 rfl) (c.fact 48 rfl) (c.def_ 13 (d := dd13) rfl) (fun _ _ _ _ _ _ us hl => match us, hl with | [_, _], _ => rfl)
  obtain ⟨fd14, D14⟩ := defAt_of (x := "same_but_for_names") (st := sSame) (ps := ["surface", "other"]) X G (c.fact 14 rfl) (c.fact 49 rfl) (c.def_ 14 (d := dd14) rfl) (fun _ _ _ _ _ _ us hl => match us, hl with | [_, _], _ => rfl)
  obtain ⟨fd15, D15⟩ := defAt_of (x := "has_too_many") (st := sTooMany) (ps := ["orbit"]) X G (c.fact 15 rfl) (c.fact 50 rfl) (c.def_ 15 (d := dd15) rfl) (fun _ _ _ _ _ _ us hl => match us, hl with | [_], _ => rfl)
  obtain ⟨fd16, D16⟩ := defAt_of (x := "add_moved") (st := sAdd) (ps := ["orbit", "turn"]) X G (c.fact 16 rfl) (c.fact 51 rfl) (c.def_ 16 (d := dd16) rfl) (fun _ _ _ _ _ _ us hl => match us, hl with | [_, _], _ => rfl)
  obtain ⟨fd17, D17⟩ := defAt_of (x := "orbit_of") (st := sOrbitOf) (ps := ["surface"]) X G (c.fact 17 rfl) (c.fact 52 rfl) (c.def_ 17 (d := dd17) rfl) (fun _ _ _ _ _ _ us hl => match us, hl with | [_], _ => rfl)
  obtain ⟨fd18, D18⟩ := defAt_of (x := "count_less") (st := sLess) (ps := ["orbit"]) X G (c.fact 18 rfl) (c.fact 53 rfl) (c.def_ 18 (d := dd18) rfl) (fun _ _ _ _ _ _ us hl => match us, hl with | [_], _ => rfl)
  obtain ⟨fd19, D19⟩ := defAt_of (x := "wheel_lengths") (st := sWheels) (ps := ["orbit"]) X G (c.fact 19 rfl) (c.fact 54 rfl) (c.def_ 19 (d := dd19) rfl) (fun _ _ _ _ _ _ us hl => match us, hl with | [_], _ => rfl)
  obtain ⟨fd20, D20⟩ := defAt_of (x := "wheel_length") (st := sWheelLen) (ps := ["surface"]) X G (c.fact 20 rfl) (c.fact 55 rfl) (c.def_ 20 (d := dd20) rfl) (fun _ _ _ _ _ _ us hl => match us, hl with | [_], _ => rfl)
  obtain ⟨fd21, D21⟩ := defAt_of (x := "tells_all_once") (st := sOnceAll) (ps := ["row", "count"]) X G (c.fact 21 rfl) (c.fact 56 rfl) (c.def_ 21 (d := dd21) rfl) (fun _ _ _ _ _ _ us hl => match us, hl with | [_, _], _ => rfl)
  obtain ⟨fd22, D22⟩ := defAt_of (x := "refusal_of_tables") (st := sRefusal) (ps := ["east", "north", "count"]) X G (c.fact 22 rfl) (c.fact 57 rfl) (c.def_ 22 (d := dd22) rfl) (fun _ _ _ _ _ _ us hl => match us, hl with | [_, _, _], _ => rfl)
  obtain ⟨fd23, D23⟩ := defAt_of (x := "are_moves") (st := sAre) (ps := ["row"]) X G (c.fact 23 rfl) (c.fact 58 rfl) (c.def_ 23 (d := dd23) rfl) (fun _ _ _ _ _ _ us hl => match us, hl with | [_], _ => rfl)
  obtain ⟨fd24, D24⟩ := defAt_of (x := "counted") (st := sCounted) (ps := ["numbers"]) X G (c.fact 24 rfl) (c.fact 59 rfl) (c.def_ 24 (d := dd24) rfl) (fun _ _ _ _ _ _ us hl => match us, hl with | [_], _ => rfl)
  obtain ⟨fd25, D25⟩ := defAt_of (x := "begin") (st := sBegin) (ps := ["board", "count"]) X G (c.fact 25 rfl) (c.fact 60 rfl) (c.def_ 25 (d := dd25) rfl) (fun _ _ _ _ _ _ us hl => match us, hl with | [_, _], _ => rfl)
  obtain ⟨fd26, D26⟩ := defAt_of (x := "glue") (st := sGlue) (ps := ["board", "east", "north"]) X G (c.fact 26 rfl) (c.fact 61 rfl) (c.def_ 26 (d := dd26) rfl) (fun _ _ _ _ _ _ us hl => match us, hl with | [_, _, _], _ => rfl)
  obtain ⟨fd27, D27⟩ := defAt_of (x := "do_moves") (st := sDo) (ps := ["board", "moves"]) X G (c.fact 27 rfl) (c.fact 62 rfl) (c.def_ 27 (d := dd27) rfl) (fun _ _ _ _ _ _ us hl => match us, hl with | [_, _], _ => rfl)
  obtain ⟨fd28, D28⟩ := defAt_of (x := "tell_if_fixed") (st := sFixed) (ps := ["surface", "moves"]) X G (c.fact 28 rfl) (c.fact 63 rfl) (c.def_ 28 (d := dd28) rfl) (fun _ _ _ _ _ _ us hl => match us, hl with | [_, _], _ => rfl)
  obtain ⟨fd29, D29⟩ := defAt_of (x := "tell_of_orbit") (st := sTellOrb) (ps := ["surface", "number"]) X G (c.fact 29 rfl) (c.fact 64 rfl) (c.def_ 29 (d := dd29) rfl) (fun _ _ _ _ _ _ us hl => match us, hl with | [_, _], _ => rfl)
  obtain ⟨fd30, D30⟩ := defAt_of (x := "tell_of_another") (st := sAnother) (ps := ["surface", "number", "east", "north"]) X G (c.fact 30 rfl) (c.fact 65 rfl) (c.def_ 30 (d := dd30) rfl) (fun _ _ _ _ _ _ us hl => match us, hl with | [_, _, _, _], _ => rfl)
  obtain ⟨fd31, D31⟩ := defAt_of (x := "tell") (st := sTell) (ps := ["surface", "number"]) X G (c.fact 31 rfl) (c.fact 66 rfl) (c.def_ 31 (d := dd31) rfl) (fun _ _ _ _ _ _ us hl => match us, hl with | [_, _], _ => rfl)
  obtain ⟨fd32, D32⟩ := defAt_of (x := "count_rows") (st := sRows) (ps := ["number"]) X G (c.fact 32 rfl) (c.fact 67 rfl) (c.def_ 32 (d := dd32) rfl) (fun _ _ _ _ _ _ us hl => match us, hl with | [_], _ => rfl)
  obtain ⟨fd33, D33⟩ := defAt_of (x := "answer_next") (st := sNext) (ps := ["board", "reader"]) X G (c.fact 33 rfl) (c.fact 68 rfl) (c.def_ 33 (d := dd33) rfl) (fun _ _ _ _ _ _ us hl => match us, hl with | [_, _], _ => rfl)
  obtain ⟨fd34, D34⟩ := defAt_of (x := "answers") (st := sAnswers) (ps := ["calls"]) X G (c.fact 34 rfl) (c.fact 69 rfl) (c.def_ 34 (d := dd34) rfl) (fun _ _ _ _ _ _ us hl => match us, hl with | [_], _ => rfl)
  obtain ⟨fd35, F35, b35⟩ := methAt_of (C := "Surface") (x := "__init__") (qn := "Surface.__init__") (st := sSurf) (ps := ["self", "east", "north"]) (c.fact 92 rfl) (c.def_ 35 (d := dd35) rfl) (fun _ _ _ _ _ _ us hl => match us, hl with | [_, _, _], _ => rfl)
  obtain ⟨fd36, F36, b36⟩ := methAt_of (C := "Orbit") (x := "__init__") (qn := "Orbit.__init__") (st := sOrbInit) (ps := ["self", "surface"]) (c.fact 93 rfl) (c.def_ 36 (d := dd36) rfl) (fun _ _ _ _ _ _ us hl => match us, hl with | [_, _], _ => rfl)
  obtain ⟨fd37, F37, b37⟩ := methAt_of (C := "Board") (x := "__init__") (qn := "Board.__init__") (st := sBoard) (ps := ["self"]) (c.fact 94 rfl) (c.def_ 37 (d := dd37) rfl) (fun _ _ _ _ _ _ us hl => match us, hl with | [_], _ => rfl)
  obtain ⟨fd38, F38, b38⟩ := methAt_of (C := "Reader") (x := "__init__") (qn := "Reader.__init__") (st := sRdInit) (ps := ["self", "numbers"]) (c.fact 95 rfl) (c.def_ 38 (d := dd38) rfl) (fun _ _ _ _ _ _ us hl => match us, hl with | [_, _], _ => rfl)
  obtain ⟨fd39, F39, b39⟩ := methAt_of (C := "Reader") (x := "ended") (qn := "Reader.ended") (st := sRdEnded) (ps := ["self"]) (c.fact 96 rfl) (c.def_ 39 (d := dd39) rfl) (fun _ _ _ _ _ _ us hl => match us, hl with | [_], _ => rfl)
  obtain ⟨fd40, F40, b40⟩ := methAt_of (C := "Reader") (x := "read_number") (qn := "Reader.read_number") (st := sRdNum) (ps := ["self"]) (c.fact 97 rfl) (c.def_ 40 (d := dd40) rfl) (fun _ _ _ _ _ _ us hl => match us, hl with | [_], _ => rfl)
  obtain ⟨fd41, F41, b41⟩ := methAt_of (C := "Reader") (x := "read_row") (qn := "Reader.read_row") (st := sRdRow) (ps := ["self"]) (c.fact 98 rfl) (c.def_ 41 (d := dd41) rfl) (fun _ _ _ _ _ _ us hl => match us, hl with | [_], _ => rfl)
  have B : Blt mg := ⟨He.free_ok X G (c.fact 127 rfl), He.free_ok X G (c.fact 128 rfl), He.free_ok X G (c.fact 129 rfl), He.free_ok X G (c.fact 130 rfl), He.free_ok X G (c.fact 131 rfl), He.free_ok X G (c.fact 132 rfl), He.free_ok X G (c.fact 133 rfl)⟩
  have Z : Nums mg := ⟨He.int_ok X G (c.fact 99 rfl), He.int_ok X G (c.fact 100 rfl), He.int_ok X G (c.fact 101 rfl), He.int_ok X G (c.fact 102 rfl), He.int_ok X G (c.fact 103 rfl), He.int_ok X G (c.fact 104 rfl), He.int_ok X G (c.fact 105 rfl), He.int_ok X G (c.fact 106 rfl), He.int_ok X G (c.fact 107 rfl), He.int_ok X G (c.fact 108 rfl), He.int_ok X G (c.fact 109 rfl), He.int_ok X G (c.fact 110 rfl), He.int_ok X G (c.fact 111 rfl), He.int_ok X G (c.fact 112 rfl), He.int_ok X G (c.fact 113 rfl), He.int_ok X G (c.fact 114 rfl), He.int_ok X G (c.fact 115 rfl), He.int_ok X G (c.fact 116 rfl), He.int_ok X G (c.fact 117 rfl), He.int_ok X G (c.fact 118 rfl), He.int_ok X G (c.fact 119 rfl), He.int_ok X G (c.fact 120 rfl), He.int_ok X G (c.fact 121 rfl), He.int_ok X G (c.fact 122 rfl), He.int_ok X G (c.fact 123 rfl), He.int_ok X G (c.fact 124 rfl), He.int_ok X G (c.fact 125 rfl), He.int_ok X G (c.fact 126 rfl)⟩
  have TS : SurfC K mg (He.ga K "Surface") _ fd35 := ⟨He.cls_ok (c.fact 71 rfl), He.noat_ok (c.fact 73 rfl), He.noat_ok (c.fact 74 rfl), He.noat_ok (c.fact 75 rfl), He.noat_ok (c.fact 76 rfl), He.glo_ok X G (c.fact 70 rfl), He.mkr_ok (c.fact 72 rfl), F35, b35⟩
  have TO : OrbC K mg (He.ga K "Orbit") _ fd36 := ⟨He.cls_ok (c.fact 78 rfl), He.noat_ok (c.fact 80 rfl), He.noat_ok (c.fact 81 rfl), He.noat_ok (c.fact 82 rfl), He.glo_ok X G (c.fact 77 rfl), He.mkr_ok (c.fact 79 rfl), F36, b36⟩
  have TB : BoardC K mg (He.ga K "Board") _ fd37 := ⟨He.cls_ok (c.fact 84 rfl), He.noat_ok (c.fact 86 rfl), He.glo_ok X G (c.fact 83 rfl), He.mkr_ok (c.fact 85 rfl), F37, b37⟩
  have TR : ReaderC K mg (He.ga K "Reader") _ _ _ _ fd38 fd39 fd40 fd41 := ⟨He.cls_ok (c.fact 88 rfl), He.noat_ok (c.fact 90 rfl), He.noat_ok (c.fact 91 rfl), He.glo_ok X G (c.fact 87 rfl), He.mkr_ok (c.fact 89 rfl), F38, b38, F39, b39, He.meth_ok (c.fact 96 rfl), F40, b40, He.meth_ok (c.fact 97 rfl), F41, b41, He.meth_ok (c.fact 98 rfl)⟩
  have e := hfa.symm.trans D34.g
  cases e
  refine ⟨fd34, fun s us hu => ?_, fun base _ _ => ?_⟩
  · obtain ⟨oc, od, kV, doc, pm, an, cdv, ct, osl, rfl, lk, hcd⟩ := D34.F.ex
    exact match us, hu with | [_], _ => .of_eq rfl
  · have G_backwards : FnOk P w K mg base CX0 1 _ fd0 ["steps"] spBackwards := ok_backwards D0 B
    have G_round_lengths : FnOk P w K mg base CX0 2 _ fd2 ["steps"] spLengths := ok_lengths D2 D1 B
    have G_surf : FnOk P w K mg base CX0 2 _ fd35 ["self", "east", "north"] (spSurf (He.ga K "Surface")) := ok_surf TS D0 B
    have G_once_round : FnOk P w K mg base CX0 1 _ fd3 ["surface"] (spOnce (He.ga K "Surface")) := ok_once TS D3
    have G_corner_lengths : FnOk P w K mg base CX0 3 _ fd4 ["surface"] (spCorn (He.ga K "Surface")) := ok_corn D4 D3 D2 G_once_round G_round_lengths
    have G_count_holes : FnOk P w K mg base CX0 4 _ fd5 ["surface"] (spHoles (He.ga K "Surface")) := ok_holes TS B D5 D4 G_corner_lengths
    have G_order_from : FnOk P w K mg base CX0 1 _ fd6 ["square", "surface"] (spOrder (He.ga K "Surface")) := ok_order TS B D6
    have G_hangs_together : FnOk P w K mg base CX0 2 _ fd7 ["surface"] (spHangs (He.ga K "Surface")) := ok_hangs TS B D7 D6 G_order_from
    have G_renamed : FnOk P w K mg base CX0 2 _ fd8 ["order", "surface"] (spRenamed (He.ga K "Surface")) := ok_renamed TS B D8 D0 G_backwards
    have G_all_renamed : FnOk P w K mg base CX0 3 _ fd9 ["surface"] (spAll (He.ga K "Surface")) := ok_all TS B D9 D6 D8 G_order_from G_renamed
    have G_name_of : FnOk P w K mg base CX0 4 _ fd10 ["surface"] (spName (He.ga K "Surface")) := ok_name B D10 D9 G_all_renamed
    have G_count_selves : FnOk P w K mg base CX0 4 _ fd11 ["surface"] (spSelves (He.ga K "Surface")) := ok_selves B D11 D9 G_all_renamed
    have G_moved : FnOk P w K mg base CX0 4 _ fd12 ["move", "surface"] (spMoved (He.ga K "Surface")) := ok_moved TS Z D12 G_surf
    have G_all_moved : FnOk P w K mg base CX0 5 _ fd13 ["moves", "surface"] (spAllMoved (He.ga K "Surface")) := ok_allMoved D13 D12 G_moved
    have G_same_but_for_names : FnOk P w K mg base CX0 5 _ fd14 ["surface", "other"] (spSame (He.ga K "Surface")) := ok_same D14 D10 G_name_of
    have G_orb : FnOk P w K mg base CX0 5 _ fd36 ["self", "surface"] (spOrbInit (He.ga K "Orbit") (He.ga K "Surface")) := ok_orbInit TO D10 G_name_of
    have G_has_too_many : FnOk P w K mg base CX0 1 _ fd15 ["orbit"] (spTooMany (He.ga K "Orbit") (He.ga K "Surface")) := ok_tooMany TO B Z D15
    have G_add_moved : FnOk P w K mg base CX0 5 _ fd16 ["orbit", "turn"] (spAdd (He.ga K "Orbit") (He.ga K "Surface")) := ok_add TO Z D16 D12 D10 G_moved G_name_of
    have G_orbit_of : FnOk P w K mg base CX0 7 _ fd17 ["surface"] (spOrbitOf (He.ga K "Orbit") (He.ga K "Surface")) := ok_orbitOf TO B D17 D15 D16 G_orb G_has_too_many G_add_moved
    have G_count_less : FnOk P w K mg base CX0 1 _ fd18 ["orbit"] (spLess (He.ga K "Orbit") (He.ga K "Surface")) := ok_less TO B D18
    have G_wheel_lengths : FnOk P w K mg base CX0 5 _ fd19 ["orbit"] (spWheels (He.ga K "Orbit") (He.ga K "Surface")) := ok_wheels TO B Z D19 D12 D10 D2 G_moved G_name_of G_round_lengths
    have G_wheel_length : FnOk P w K mg base CX0 5 _ fd20 ["surface"] (spWheelLen (He.ga K "Surface")) := ok_wheelLen Z D20 D12 D10 G_moved G_name_of
    have G_tells_all_once : FnOk P w K mg base CX0 1 _ fd21 ["row", "count"] spOnceAll := ok_onceAll B D21
    have G_refusal_of_tables : FnOk P w K mg base CX0 4 _ fd22 ["east", "north", "count"] spRefusal := ok_refusal TS Z D22 D21 D7 G_surf G_tells_all_once G_hangs_together
    have G_are_moves : FnOk P w K mg base CX0 1 _ fd23 ["row"] spAre := ok_are B Z D23
    have G_counted : FnOk P w K mg base CX0 1 _ fd24 ["numbers"] spCounted := ok_counted B D24
    have G_begin : FnOk P w K mg base CX0 4 _ fd25 ["board", "count"] (spBegin (He.ga K "Board") (He.ga K "Surface")) := ok_begin TS TB B Z D25 G_surf
    have G_glue : FnOk P w K mg base CX0 5 _ fd26 ["board", "east", "north"] (spGlue (He.ga K "Board") (He.ga K "Surface")) := ok_glue TS TB B D26 D22 D4 G_surf G_refusal_of_tables G_corner_lengths
    have G_do_moves : FnOk P w K mg base CX0 6 _ fd27 ["board", "moves"] (spDo (He.ga K "Board") (He.ga K "Surface")) := ok_do TB B Z D27 D23 D13 G_are_moves G_all_moved
    have G_tell_if_fixed : FnOk P w K mg base CX0 6 _ fd28 ["surface", "moves"] (spFixed (He.ga K "Surface")) := ok_fixed Z D28 D23 D13 D14 G_are_moves G_all_moved G_same_but_for_names
    have G_tell_of_orbit : FnOk P w K mg base CX0 8 _ fd29 ["surface", "number"] (spTellOrb (He.ga K "Surface")) := ok_tellOrb TO B Z D29 D17 D15 D24 D19 D18 G_orbit_of G_has_too_many G_counted G_wheel_lengths G_count_less
    have G_tell_of_another : FnOk P w K mg base CX0 8 _ fd30 ["surface", "number", "east", "north"] (spAnother (He.ga K "Surface")) := ok_another TS TO B Z D30 D22 D17 D15 D24 D10 G_surf G_refusal_of_tables G_orbit_of G_has_too_many G_counted G_name_of
    have G_tell : FnOk P w K mg base CX0 7 _ fd31 ["surface", "number"] (spTell (He.ga K "Surface")) := ok_tell TS B Z D31 D24 D4 D5 D2 D10 D11 D20 D28 G_counted G_corner_lengths G_count_holes G_round_lengths G_name_of G_count_selves G_wheel_length G_tell_if_fixed
    have G_count_rows : FnOk P w K mg base CX0 1 _ fd32 ["number"] spRows := ok_rows Z D32
    have G_answer_next : FnOk P w K mg base CX0 9 _ fd33 ["board", "reader"] (spNext K (He.ga K "Board") (He.ga K "Surface") (He.ga K "Reader")) := ok_next TB TR B Z D33 D25 D32 D26 D27 D28 D30 D29 D31 G_begin G_count_rows G_glue G_do_moves G_tell_if_fixed G_tell_of_another G_tell_of_orbit G_tell
    exact ok_answers (n := 7) TB TR B D34 D33 G_answer_next
end
end Sq
set_option Elab.async false
set_option linter.all false
set_option maxRecDepth 100000
set_option maxHeartbeats 0
namespace Sq
open PySem PySem.Spec PySem.W PySem.Calls PyProof.Rows L2
abbrev theRow : OpenSpec := PySem.Challenge.rw_shearedsquares_s01_answers
abbrev vw : Program := view theRow.prog [69]
abbrev hk : PySem.W.Hook := He.hookE 4 faL fnL
def ob (s : PySem.W.SharedT) : He.Al := He.obsG 4 faL fnL (HandSHeadRun.getT s)
theorem ob_eq (s : PySem.W.SharedT) : ob s = hk.obs s.abs := He.obsG_eq (HandSHeadRun.getT_eq s)
def loose0 : List PySem.Str := ["SHEARED", "SHEARED_BACK", "TURNED", "Surface", "backwards", "round_from", "round_lengths", "once_round", "corner_lengths", "count_holes", "order_from", "hangs_together", "renamed", "all_renamed", "name_of", "count_selves", "moved", "all_moved", "same_but_for_names", "MOST_NAMES", "Orbit", "has_too_many", "add_moved", "orbit_of", "count_less", "wheel_lengths", "wheel_length", "BEGIN", "GLUE", "CORNERS"]
def loose1 : List PySem.Str := ["HOLES", "ROWS", "NAME", "SELVES", "STATE", "DO", "ORBIT", "WHEELS", "WHEEL", "WAY", "REACHES", "LEAST", "PLACE", "FIXES", "NOT_BEGUN", "NOT_RIGHT", "NOT_TOGETHER", "NO_WAY", "TOO_MANY", "MOST_SQUARES", "MOST_MOVES", "Board", "Reader", "tells_all_once", "refusal_of_tables", "are_moves", "counted", "begin", "glue", "do_moves"]
def loose2 : List PySem.Str := ["tell_if_fixed", "tell_of_orbit", "tell_of_another", "tell", "count_rows", "answer_next"]
def loose : List PySem.Str := loose0 ++ loose1 ++ loose2
theorem run (w : World) : HandSHeadRun.RunEqS theRow vw hk ob 4500 loose w := by
  intro os
  kernel_rfl
end Sq
set_option Elab.async false
set_option linter.all false
set_option maxRecDepth 100000
set_option maxHeartbeats 0
namespace Sq
open PySem PySem.Spec PySem.W PyProof.Rows L2
/-- the row's goal behind a head by facts: what is written is some K that the facts speak of -/
theorem walk_facts {row : OpenSpec} {lev : Nat} {vq : Program} {ls : List PySem.Str} {XP : (PySem.Str → Option Value) → Heap → Prop} {YP : World → Heap → Prop} {dr : DefRec} {names : List PySem.Str} {prom : Frag → Sp} {Says : Frag → Prop}
    (w0 : row.wellSaid = true) (w1 : dr.params.defaults = []) (w2 : row.args.length = names.length) (w3 : Room lev callerA)
    (w4 : ∀ wd hp, YP wd hp → ∃ K : Frag, K.In hp ∧ Says K)
    (w5 : ∀ (wd : World) (mg : PySem.Str → Option Value) (at_ : Addr) (hp : Heap) (K : Frag), K.In hp → Says K → hp.Ns mainGlobals mg → mg dr.name = some (.ref at_) →
      ∃ fd : FuncData, (∀ (sh : Shared) (us : List Value), us.length = names.length → BindsTo sh fd ⟨us, []⟩ (names.zip us)) ∧
        ∀ bs : Heap, K.In bs → bs.Ns mainGlobals mg → FnOk row.prog wd K mg bs CX0 lev at_ fd names (prom K))
    (w6 : ∀ (K : Frag) (H : Hp) (xs : List V) (v : Codec.denoteAll row.args), OnlyF H → Codec.withinAll row.args v = true → Codec.app row.args row.asked v = true → DwAll K H xs (Codec.encAll row.args v) →
      prom K xs H (fun y H' => Dw K H' y (row.ret.enc (Codec.app row.args row.f v))) fun _ _ _ => False) :
    WalkOS vq ls XP YP row dr [] (fun f vs => PySem.call f vs) := by
  intro wd sa sb mg mb G Y at_ o pm cd doc dV kV ho hd hcd hD hmg hg args vals adr hpre hlay hrd hwl hlo
  obtain ⟨v, q1, q2⟩ := os_pre_some hpre
  obtain ⟨q3, q4⟩ := Codec.encAll_of_decAll row.args args v q1
  subst q3
  obtain ⟨K, KX, says⟩ := w4 wd _ Y
  obtain ⟨fd, bnd, hF⟩ := w5 wd mg at_ _ K KX says G.T.g hmg
  have go := spec_call (R := []) (cl := classAt sa.heap) (d0 := row.ret.enc (Codec.app row.args row.f v)) KX G.T.g G.T.b
    G.T.builtins G.T.nolimit hg hwl (pl_encAll _ _) (layable_weight hlay) w3 hF bnd (by rw [encAll_len]; exact w2)
    (fun H xs h1 h2 => w6 K H xs v h1 q4 q2 h2) (fun _ _ _ z => z)
  refine enter_call (codeAny_mono go fun res sh hq => ?_)
  obtain ⟨u, adr', rfl, k1, k2, k3, k4⟩ := hq
  refine ⟨.inl ⟨u, _, adr', rfl, fun _ => rfl, k1, ?_, fun z => by cases z⟩, k2, k3, k4⟩
  exact (OpenSpec.post_iff w0 q4 _ _).mpr rfl
/-- what is handed in, as natural numbers -/
theorem nat_of {ns : List Int} (h : ∀ x ∈ ns, 0 ≤ x) : ∃ cs : List Nat, ns = IntL cs := by
  refine ⟨ns.map Int.toNat, ?_⟩
  unfold IntL
  rw [List.map_map]
  conv => lhs; rw [← List.map_id ns]
  refine List.map_congr_left fun x hx => ?_
  have := h x hx
  show x = ((x.toNat : Nat) : Int)
  omega
theorem asked_gives {ns : List Int} (h : PyKrcv.answers_asked ns = true) : ∃ rc, PyFlat.calls PyKrcv.shape ns.length ns = some rc ∧ PyKrcv.answers ns = rest none rc ∧ (rest none rc).length ≤ 10000000 := by
  unfold PyKrcv.answers_asked at h
  cases e : PyFlat.calls PyKrcv.shape ns.length ns with
  | none => rw [e] at h; cases h
  | some rc =>
    rw [e] at h
    have e2 : PyKrcv.answers ns = rest none rc := by
      unfold PyKrcv.answers PyKrcv.calls
      rw [e]; rfl
    refine ⟨rc, rfl, e2, ?_⟩
    simp only [Bool.and_eq_true] at h
    have h5 := h.2
    unfold PyFlat.short at h5
    rw [e2] at h5
    exact of_decide_eq_true h5
theorem row_promise (K : Frag) (H : Hp) (xs : List V) (v : Codec.denoteAll theRow.args) (h1 : Codec.withinAll theRow.args v = true) (h2 : Codec.app theRow.args theRow.asked v = true) (h3 : DwAll K H xs (Codec.encAll theRow.args v)) :
    spAnswers K xs H (fun y H' => Dw K H' y (theRow.ret.enc (Codec.app theRow.args theRow.f v))) fun _ _ _ => False := by
  cases h3 with
  | cons a b =>
    cases b
    cases a with
    | lst hs ha =>
      have e := ints_dw v.1 _ ha
      subst e
      have q : ((Codec.inLen 0 15390 v.1 && v.1.all (Codec.inInt 0 4294967295)) && true) = true := h1
      rw [Bool.and_eq_true, Bool.and_eq_true] at q
      have hpos : ∀ x ∈ v.1, 0 ≤ x := fun x hx => by
        have := List.all_eq_true.mp q.1.2 x hx
        exact (Codec.inInt_iff.mp this).1
      obtain ⟨cs, ecs⟩ := nat_of hpos
      have hq : PyKrcv.answers_asked v.1 = true := h2
      obtain ⟨rc, r1, r2, r3⟩ := asked_gives hq
      refine ⟨_, cs, rc, v.1.length, rfl, ?_, by rw [← ecs]; exact r1, r3, fun H' p _ hp => ?_⟩
      · rw [nv_IntL, ← ecs]; exact hs
      · have e3 : Codec.app theRow.args theRow.f v = rest none rc := r2
        rw [e3]
        exact .lst (SqL.of hp) (dw_ints _)
end Sq
open PySem PySem.W PySem.Calls PyProof.Rows
theorem PySem.Challenge.cw_shearedsquares_s01_answers_holds : PySem.Challenge.rw_shearedsquares_s01_answers.Holds := by
  w_on
  refine HandSHeadRun.head_spec (r := Sq.theRow) (q := Sq.vw) (H := Sq.hk) (ob := Sq.ob) (M := 4500) (loose := Sq.loose) (d := HandSHeadRun.topDef Sq.theRow.prog 69) (kwd := []) Sq.ob_eq
    (by kernel_rfl) (fun s => by kernel_rfl) Sq.run (by kernel_rfl) (by kernel_rfl) (by kernel_rfl) os_shapes (by decide +kernel) (by decide +kernel) ⟨rfl, rfl, rfl, rfl, rfl, by decide +kernel⟩ ?hw ?hc
  case hw => exact ⟨[.list [.int 2]], by decide +kernel, by decide +kernel⟩
  case hc =>
    refine Sq.walk_facts (row := Sq.theRow) (lev := 10) (names := ["calls"]) (prom := Sq.spAnswers) (Says := He.SaysE Sq.faL Sq.fnL) (by decide +kernel) (by kernel_rfl) rfl ⟨rfl, by decide, by decide⟩ (fun _ _ y => y) ?_ (fun K H xs v _ h1 h2 h3 => Sq.row_promise K H xs v h1 h2 h3)
    intro wd mg at_ hp K KX c G hmg
    have e : (HandSHeadRun.topDef Sq.theRow.prog 69).name = ("answers" : PySem.Str) := by kernel_rfl
    rw [e] at hmg
    exact Sq.all_mk KX G hmg c
