import PyProof.Rows.All
import Wide.All
import OpenK.AllK
import Wide.FinOn
import Open.SpecLaws
import KE.OsGo
import PyWideLaws
import KE.KDictList
import HandS.ForSpec
import HandS.Comp
import HandS.Conv
import HandS.SetKeys
import HandS.Iter
import HandS.WideBits
import PySem.Challenge.RW_roadbehind_s01_answers
set_option Elab.async false
set_option linter.all false
set_option maxRecDepth 100000
set_option maxHeartbeats 8000000
namespace Rb
open Si94 (Chase News)
/-! Shortest drives: what the program's table of minutes must be, and that the document's drives are the same -/
abbrev NO : Nat := 1000000
def Edge (roads : List (Nat × Nat × Nat)) (u v m : Nat) : Prop := (u, v, m) ∈ roads ∨ (v, u, m) ∈ roads
theorem Edge.sym {roads : List (Nat × Nat × Nat)} {u v m : Nat} (h : Edge roads u v m) : Edge roads v u m := h.elim .inr .inl
inductive Drive (roads : List (Nat × Nat × Nat)) (n a : Nat) : Nat → Nat → Prop
  | here : a < n → Drive roads n a a 0
  | step {u v m L : Nat} : Drive roads n a u L → Edge roads u v m → v < n → Drive roads n a v (L + m)
theorem Drive.lt {roads : List (Nat × Nat × Nat)} {n a b L : Nat} (h : Drive roads n a b L) : b < n := by
  cases h <;> assumption
theorem Drive.append {roads : List (Nat × Nat × Nat)} {n a b c L M : Nat} (h : Drive roads n a b L) (g : Drive roads n b c M) : Drive roads n a c (L + M) := by
  induction g with
  | here _ => exact h
  | step _ e l ih =>
    rw [← Nat.add_assoc]
    exact ih.step e l
/-- roads as they may be told -/
def RoadsOk (n : Nat) (roads : List (Nat × Nat × Nat)) : Prop := ∀ u v m, (u, v, m) ∈ roads → u < n ∧ v < n ∧ u ≠ v ∧ 1 ≤ m ∧ m ≤ 1000
theorem RoadsOk.edge {n : Nat} {roads : List (Nat × Nat × Nat)} (h : RoadsOk n roads) {u v m : Nat} (e : Edge roads u v m) : u < n ∧ v < n ∧ u ≠ v ∧ 1 ≤ m ∧ m ≤ 1000 := by
  rcases e with e | e
  · exact h _ _ _ e
  · obtain ⟨a, b, c, d, e⟩ := h _ _ _ e
    exact ⟨b, a, Ne.symm c, d, e⟩
structure FwInv (n : Nat) (roads : List (Nat × Nat × Nat)) (k : Nat) (D : Nat → Nat → Nat) : Prop where
  self : ∀ a, a < n → D a a = 0
  le : ∀ a b, a < n → b < n → D a b ≤ NO
  gap : ∀ a b, a < n → b < n → D a b < NO → D a b ≤ 1000 * 2 ^ k
  walk : ∀ a b, a < n → b < n → D a b < NO → Drive roads n a b (D a b)
  edge : ∀ u v m, Edge roads u v m → D u v ≤ m
  sym : ∀ a b, a < n → b < n → D a b = D b a
  tri : ∀ j a b, j < k → j < n → a < n → b < n → D a b ≤ D a j + D j b
theorem FwInv.next {n : Nat} {roads : List (Nat × Nat × Nat)} {k : Nat} {D D' : Nat → Nat → Nat} (ok : RoadsOk n roads) (h : FwInv n roads k D) (hk : k < n) (e : ∀ a b, a < n → b < n → D' a b = min (D a b) (D a k + D k b)) : FwInv n roads (k + 1) D' where
  self a ha := by
    rw [e a a ha ha, h.self a ha]; omega
  le a b ha hb := by
    have := h.le a b ha hb
    rw [e a b ha hb]; omega
  gap a b ha hb q := by
    rw [e a b ha hb] at q ⊢
    have p2 : 1000 * 2 ^ (k + 1) = 1000 * 2 ^ k + 1000 * 2 ^ k := by rw [Nat.pow_succ]; omega
    rw [p2]
    rcases Nat.lt_or_ge (D a b) NO with c | c
    · have := h.gap a b ha hb c; omega
    · have c1 : D a k < NO := by omega
      have c2 : D k b < NO := by omega
      have := h.gap a k ha hk c1
      have := h.gap k b hk hb c2
      omega
  walk a b ha hb q := by
    rw [e a b ha hb] at q ⊢
    rcases Nat.le_total (D a b) (D a k + D k b) with c | c
    · rw [Nat.min_eq_left c] at q ⊢
      exact h.walk a b ha hb q
    · rw [Nat.min_eq_right c] at q ⊢
      exact (h.walk a k ha hk (by omega)).append (h.walk k b hk hb (by omega))
  edge u v m x := by
    obtain ⟨hu, hv, _⟩ := ok.edge x
    have := h.edge u v m x
    rw [e u v hu hv]; omega
  sym a b ha hb := by
    rw [e a b ha hb, e b a hb ha, h.sym a b ha hb, h.sym a k ha hk, h.sym k b hk hb, Nat.add_comm]
  tri j a b hj hjn ha hb := by
    rw [e a b ha hb, e a j ha hjn, e j b hjn hb]
    rcases Nat.lt_or_ge j k with c | c
    · have t1 := h.tri j a b c hjn ha hb
      have t2 := h.tri j a k c hjn ha hk
      have t3 := h.tri j k b c hjn hk hb
      omega
    · obtain rfl : j = k := by omega
      have s := h.self j hk
      omega
/-- the table as it must be -/
structure IsDist (n : Nat) (roads : List (Nat × Nat × Nat)) (D : Nat → Nat → Nat) : Prop where
  self : ∀ a, a < n → D a a = 0
  le : ∀ a b, a < n → b < n → D a b ≤ NO
  gap : ∀ a b, a < n → b < n → D a b < NO → D a b ≤ 64000
  walk : ∀ a b, a < n → b < n → D a b < NO → Drive roads n a b (D a b)
  edge : ∀ u v m, Edge roads u v m → D u v ≤ m
  sym : ∀ a b, a < n → b < n → D a b = D b a
  tri : ∀ j a b, j < n → a < n → b < n → D a b ≤ D a j + D j b
theorem FwInv.done {n : Nat} {roads : List (Nat × Nat × Nat)} {D : Nat → Nat → Nat} (hn : n ≤ 6) (h : FwInv n roads n D) : IsDist n roads D where
  self := h.self
  le := h.le
  gap a b ha hb q := by
    have g := h.gap a b ha hb q
    have p : 2 ^ n ≤ 2 ^ 6 := Nat.pow_le_pow_right (by decide) hn
    omega
  walk := h.walk
  edge := h.edge
  sym := h.sym
  tri j a b hj := h.tri j a b hj hj
/-- the roads told, each by itself -/
structure IsStraight (n : Nat) (roads : List (Nat × Nat × Nat)) (D : Nat → Nat → Nat) : Prop where
  self : ∀ a, a < n → D a a = 0
  le : ∀ a b, a < n → b < n → D a b ≤ NO
  one : ∀ a b, a < n → b < n → D a b < NO → a = b ∨ Edge roads a b (D a b)
  edge : ∀ u v m, Edge roads u v m → D u v ≤ m
  sym : ∀ a b, a < n → b < n → D a b = D b a
theorem IsStraight.none {n : Nat} {D : Nat → Nat → Nat} (h : ∀ a b, a < n → b < n → D a b = if a = b then 0 else NO) : IsStraight n [] D where
  self a ha := by rw [h a a ha ha, if_pos rfl]
  le a b ha hb := by rw [h a b ha hb]; split <;> omega
  one a b ha hb q := by
    rw [h a b ha hb] at q
    split at q
    · exact .inl ‹_›
    · omega
  edge u v m e := by rcases e with e | e <;> cases e
  sym a b ha hb := by
    rw [h a b ha hb, h b a hb ha]
    by_cases c : a = b
    · rw [if_pos c, if_pos c.symm]
    · rw [if_neg c, if_neg (Ne.symm c)]
theorem IsStraight.more {n : Nat} {roads : List (Nat × Nat × Nat)} {D D' : Nat → Nat → Nat} {p o m : Nat} (h : IsStraight n roads D) (hp : p < n) (ho : o < n) (hne : p ≠ o)
    (e : ∀ a b, a < n → b < n → D' a b = if (a = p ∧ b = o) ∨ (a = o ∧ b = p) then min m (D p o) else D a b) (ok : RoadsOk n roads) : IsStraight n (roads ++ [(p, o, m)]) D' where
  self a ha := by
    rw [e a a ha ha, if_neg (by omega)]
    exact h.self a ha
  le a b ha hb := by
    have := h.le a b ha hb
    have := h.le p o hp ho
    rw [e a b ha hb]; split <;> omega
  one a b ha hb q := by
    rw [e a b ha hb] at q ⊢
    have old : ∀ x y z, Edge roads x y z → Edge (roads ++ [(p, o, m)]) x y z := fun x y z w => w.elim (fun w => .inl (List.mem_append.mpr (.inl w))) fun w => .inr (List.mem_append.mpr (.inl w))
    split
    · rename_i c
      rw [if_pos c] at q
      refine .inr ?_
      have new : Edge (roads ++ [(p, o, m)]) a b m := by
        rcases c with ⟨rfl, rfl⟩ | ⟨rfl, rfl⟩
        · exact .inl (List.mem_append.mpr (.inr (List.mem_singleton.mpr rfl)))
        · exact .inr (List.mem_append.mpr (.inr (List.mem_singleton.mpr rfl)))
      rcases Nat.le_total m (D p o) with c2 | c2
      · rw [Nat.min_eq_left c2]; exact new
      · rw [Nat.min_eq_right c2] at q ⊢
        rcases h.one p o hp ho q with z | z
        · exact absurd z hne
        · rcases c with ⟨rfl, rfl⟩ | ⟨rfl, rfl⟩
          · exact old _ _ _ z
          · exact old _ _ _ z.sym
    · rename_i c
      rw [if_neg c] at q
      exact (h.one a b ha hb q).imp id (old _ _ _)
  edge u v k x := by
    have key : Edge roads u v k ∨ (u = p ∧ v = o ∧ k = m) ∨ (u = o ∧ v = p ∧ k = m) := by
      rcases x with x | x
      · rcases List.mem_append.mp x with x | x
        · exact .inl (.inl x)
        · have := List.mem_singleton.mp x
          simp only [Prod.mk.injEq] at this
          exact .inr (.inl this)
      · rcases List.mem_append.mp x with x | x
        · exact .inl (.inr x)
        · have := List.mem_singleton.mp x
          simp only [Prod.mk.injEq] at this
          exact .inr (.inr ⟨this.2.1, this.1, this.2.2⟩)
    rcases key with x | ⟨rfl, rfl, rfl⟩ | ⟨rfl, rfl, rfl⟩
    · obtain ⟨hu, hv, _⟩ := ok.edge x
      have q := h.edge u v k x
      rw [e u v hu hv]
      split
      · rename_i c
        rcases c with ⟨rfl, rfl⟩ | ⟨rfl, rfl⟩
        · omega
        · have := h.sym u v hu hv
          omega
      · exact q
    · rw [e u v hp ho, if_pos (.inl ⟨rfl, rfl⟩)]; omega
    · rw [e u v ho hp, if_pos (.inr ⟨rfl, rfl⟩)]; omega
  sym a b ha hb := by
    rw [e a b ha hb, e b a hb ha]
    by_cases c : (a = p ∧ b = o) ∨ (a = o ∧ b = p)
    · rw [if_pos c, if_pos (by omega)]
    · rw [if_neg c, if_neg (by omega)]
      exact h.sym a b ha hb
theorem IsStraight.fw {n : Nat} {roads : List (Nat × Nat × Nat)} {D : Nat → Nat → Nat} (h : IsStraight n roads D) (ok : RoadsOk n roads) : FwInv n roads 0 D where
  self := h.self
  le := h.le
  gap a b ha hb q := by
    rcases h.one a b ha hb q with rfl | e
    · rw [h.self a ha]; omega
    · have := (ok.edge e).2.2.2.2
      omega
  walk a b ha hb q := by
    rcases h.one a b ha hb q with rfl | e
    · rw [h.self a ha]; exact .here ha
    · have := Drive.step (.here ha) e hb
      rwa [Nat.zero_add] at this
  edge := h.edge
  sym := h.sym
  tri j a b hj := by omega
/-! The table is the document's -/
section
variable {n : Nat} {roads : List (Nat × Nat × Nat)} {D : Nat → Nat → Nat}
theorem IsDist.best (h : IsDist n roads D) (ok : RoadsOk n roads) {a b L : Nat} (ha : a < n) (w : Drive roads n a b L) : D a b ≤ L ∧ D a b < NO := by
  induction w with
  | here l => rw [h.self a l]; exact ⟨Nat.le_refl _, by decide⟩
  | step w e l ih =>
    rename_i u v m L
    have hNO : NO = 1000000 := rfl
    have t := h.tri u a v w.lt ha l
    have q := h.edge _ _ _ e
    have g := h.gap a u ha w.lt ih.2
    have := (ok.edge e).2.2.2.2
    omega
theorem least_mem : ∀ {l : List Nat} {x : Nat}, Si94.least l = some x → x ∈ l
  | [], _, h => by cases h
  | y :: l, x, h => by
    unfold Si94.least at h
    split at h
    · cases h; exact List.mem_cons_self
    · rename_i m q
      cases h
      rcases Nat.le_total y m with c | c
      · rw [Nat.min_eq_left c]; exact List.mem_cons_self
      · rw [Nat.min_eq_right c]; exact List.mem_cons_of_mem _ (least_mem q)
theorem least_le : ∀ {l : List Nat} {y : Nat}, y ∈ l → ∃ x, Si94.least l = some x ∧ x ≤ y
  | [], _, h => by cases h
  | z :: l, y, h => by
    unfold Si94.least
    split
    · rename_i q
      rcases List.mem_cons.mp h with rfl | h
      · exact ⟨_, rfl, Nat.le_refl _⟩
      · obtain ⟨x, e, _⟩ := least_le h
        rw [q] at e; cases e
    · rename_i m q
      refine ⟨_, rfl, ?_⟩
      rcases List.mem_cons.mp h with rfl | h
      · omega
      · obtain ⟨x, e, l⟩ := least_le h
        rw [q] at e; cases e
        omega
end
theorem spread_succ (c : Chase) : ∀ (k : Nat) (l : List (Option Nat)), c.spread (k + 1) l = c.farther (c.spread k l)
  | 0, _ => rfl
  | k + 1, l => spread_succ c k (c.farther l)
theorem getD_map {α : Type} (f : Nat → Option α) (n b : Nat) (hb : b < n) : (((List.range n).map f).getD b none) = f b := by
  rw [List.getD_eq_getElem?_getD, List.getElem?_map, List.getElem?_range hb]; rfl
theorem getD_map_out {α : Type} (f : Nat → Option α) (n b : Nat) (hb : ¬ b < n) : (((List.range n).map f).getD b none) = none := by
  rw [List.getD_eq_getElem?_getD, List.getElem?_eq_none (by rw [List.length_map, List.length_range]; omega)]; rfl
theorem road_edge {c : Chase} {a b m : Nat} (h : c.road a b = some m) : Edge c.roads a b m := by
  have q := least_mem h
  obtain ⟨r, h1, rfl⟩ := List.mem_map.mp q
  obtain ⟨h2, h3⟩ := List.mem_filter.mp h1
  obtain ⟨x, y, z⟩ := r
  have h3 : ((x == a && y == b) || (x == b && y == a)) = true := h3
  simp only [Bool.or_eq_true, Bool.and_eq_true, beq_iff_eq] at h3
  rcases h3 with ⟨rfl, rfl⟩ | ⟨rfl, rfl⟩
  · exact .inl h2
  · exact .inr h2
theorem edge_road {c : Chase} {a b m : Nat} (h : Edge c.roads a b m) : ∃ x, c.road a b = some x ∧ x ≤ m := by
  refine least_le (List.mem_map.mpr ?_)
  rcases h with h | h
  · exact ⟨_, List.mem_filter.mpr ⟨h, by simp⟩, rfl⟩
  · exact ⟨_, List.mem_filter.mpr ⟨h, by simp⟩, rfl⟩
theorem filter_lt {p q : Nat → Bool} {u : Nat} (pq : ∀ x, p x = true → q x = true) (hq : q u = true) (hp : p u = false) : ∀ {l : List Nat}, u ∈ l → (l.filter p).length < (l.filter q).length
  | [], h => by cases h
  | x :: l, h => by
    have le : ∀ l : List Nat, (l.filter p).length ≤ (l.filter q).length := by
      intro l
      induction l with
      | nil => exact Nat.le_refl _
      | cons y l ih =>
        rw [List.filter_cons, List.filter_cons]
        by_cases c : p y = true
        · rw [if_pos c, if_pos (pq y c)]; simp only [List.length_cons]; omega
        · rw [if_neg c]; split <;> (try simp only [List.length_cons]) <;> omega
    rw [List.filter_cons, List.filter_cons]
    by_cases c : x = u
    · subst c
      rw [if_neg (by rw [hp]; exact Bool.false_ne_true), if_pos hq]
      have := le l
      simp only [List.length_cons]; omega
    · have h' : u ∈ l := by
        rcases List.mem_cons.mp h with z | z
        · exact absurd z.symm c
        · exact z
      have ih := filter_lt pq hq hp h'
      by_cases c : p x = true
      · rw [if_pos c, if_pos (pq x c)]; simp only [List.length_cons]; omega
      · rw [if_neg c]; split <;> (try simp only [List.length_cons]) <;> omega
section
variable {c : Chase} {D : Nat → Nat → Nat} {a : Nat}
abbrev at_ (c : Chase) (a k b : Nat) : Option Nat := (c.spread k ((List.range c.places).map fun b => if b = a then some 0 else none)).getD b none
theorem at_succ (k b : Nat) (hb : b < c.places) : at_ c a (k + 1) b = Si94.least ((at_ c a k b).toList ++ (List.range c.places).filterMap fun v => match at_ c a k v, c.road v b with
    | some n, some m => some (n + m)
    | _, _ => none) := by
  unfold at_
  rw [spread_succ]
  unfold Chase.farther
  rw [getD_map _ _ _ hb]
  rfl
theorem at_sound (ha : a < c.places) : ∀ (k b x : Nat), b < c.places → at_ c a k b = some x → Drive c.roads c.places a b x
  | 0, b, x, hb, h => by
    unfold at_ at h
    rw [Chase.spread, getD_map _ _ _ hb] at h
    split at h
    · cases h; subst_vars; exact .here ha
    · cases h
  | k + 1, b, x, hb, h => by
    rw [at_succ k b hb] at h
    rcases List.mem_append.mp (least_mem h) with q | q
    · exact at_sound ha k b x hb (by simpa using q)
    · obtain ⟨v, hv, q⟩ := List.mem_filterMap.mp q
      split at q
      · rename_i n m e1 e2
        cases q
        exact .step (at_sound ha k v n (List.mem_range.mp hv) e1) (road_edge e2) hb
      · cases q
theorem at_mono {k b y : Nat} (hb : b < c.places) (h : at_ c a k b = some y) : ∃ x, at_ c a (k + 1) b = some x ∧ x ≤ y := by
  rw [at_succ k b hb, h]
  exact least_le (List.mem_append.mpr (.inl (by simp)))
theorem at_here (ha : a < c.places) : ∀ k, at_ c a k a = some 0
  | 0 => by
    unfold at_
    rw [Chase.spread, getD_map _ _ _ ha, if_pos rfl]
  | k + 1 => by
    obtain ⟨x, e, l⟩ := at_mono ha (at_here ha k)
    rw [e, show x = 0 by omega]
theorem at_full (h : IsDist c.places c.roads D) (ok : RoadsOk c.places c.roads) (ha : a < c.places) : ∀ (k v : Nat), v < c.places → D a v < NO → ((List.range c.places).filter fun u => decide (D a u < D a v)).length ≤ k → ∃ x, at_ c a k v = some x ∧ x ≤ D a v := by
  intro k
  induction k with
  | zero =>
    intro v hv hD hr
    by_cases e : v = a
    · subst e; exact ⟨0, at_here hv 0, Nat.zero_le _⟩
    · have w := h.walk a v ha hv hD
      generalize hL : D a v = L at w
      cases w with
      | here _ => exact absurd rfl e
      | step w x l =>
        rename_i u m L
        have := (h.best ok ha w).1
        have := (ok.edge x).2.2.2.1
        have mm : u ∈ (List.range c.places).filter fun u => decide (D a u < D a v) := List.mem_filter.mpr ⟨List.mem_range.mpr w.lt, decide_eq_true (by omega)⟩
        rw [List.length_eq_zero_iff.mp (Nat.le_zero.mp hr)] at mm
        cases mm
  | succ k ih =>
    intro v hv hD hr
    by_cases e : v = a
    · subst e; exact ⟨0, at_here hv _, Nat.zero_le _⟩
    · have w := h.walk a v ha hv hD
      generalize hL : D a v = L at w
      cases w with
      | here _ => exact absurd rfl e
      | step w x l =>
        rename_i u m L
        have b1 := (h.best ok ha w).1
        have b2 := (ok.edge x).2.2.2.1
        have lt : ((List.range c.places).filter fun z => decide (D a z < D a u)).length < ((List.range c.places).filter fun z => decide (D a z < D a v)).length := by
          refine filter_lt (u := u) (fun z hz => ?_) (decide_eq_true (by omega)) (decide_eq_false (by omega)) (List.mem_range.mpr w.lt)
          have := of_decide_eq_true hz
          exact decide_eq_true (by omega)
        obtain ⟨y, e1, l1⟩ := ih u w.lt (by omega) (by omega)
        obtain ⟨m', e2, l2⟩ := edge_road (c := c) x
        obtain ⟨z, e3, l3⟩ := least_le (l := (at_ c a k v).toList ++ (List.range c.places).filterMap fun v' => match at_ c a k v', c.road v' v with
          | some n, some m => some (n + m)
          | _, _ => none) (y := y + m') (List.mem_append.mpr (.inr (List.mem_filterMap.mpr ⟨u, List.mem_range.mpr w.lt, by rw [e1, e2]⟩)))
        refine ⟨z, ?_, by omega⟩
        rw [at_succ k v hv]
        exact e3
theorem far_is (h : IsDist c.places c.roads D) (ok : RoadsOk c.places c.roads) (ha : a < c.places) {b : Nat} (hb : b < c.places) : Si94.far c.ways a b = if D a b < NO then some (D a b) else none := by
  have e : Si94.far c.ways a b = at_ c a c.places b := by
    have q : c.ways.getD a [] = c.from_ a := by
      unfold Chase.ways
      rw [List.getD_eq_getElem?_getD, List.getElem?_map, List.getElem?_range ha]
      rfl
    unfold Si94.far
    rw [q]
    rfl
  rw [e]
  by_cases q : D a b < NO
  · rw [if_pos q]
    obtain ⟨x, e1, l1⟩ := at_full h ok ha c.places b hb q (Nat.le_trans (List.length_filter_le ..) (by rw [List.length_range]; exact Nat.le_refl _))
    have := (h.best ok ha (at_sound ha _ _ _ hb e1)).1
    rw [e1, show x = D a b by omega]
  · rw [if_neg q]
    cases e1 : at_ c a c.places b with
    | none => rfl
    | some x => exact absurd (h.best ok ha (at_sound ha _ _ _ hb e1)).2 q
theorem far_out {b : Nat} (hb : ¬ a < c.places) : Si94.far c.ways a b = none := by
  have q : c.ways.getD a [] = [] := by
    unfold Chase.ways
    rw [List.getD_eq_getElem?_getD, List.getElem?_eq_none (by rw [List.length_map, List.length_range]; omega)]
    rfl
  unfold Si94.far
  rw [q]
  rfl
end
end Rb

namespace Rb
open Si94 (Chase News)
/-! The ways of driving as the program looks them through, and that it finds what the document asks -/
def maxOf (l : List Nat) : Nat := l.foldr max 0
theorem maxOf_cons (x : Nat) (l : List Nat) : maxOf (x :: l) = max x (maxOf l) := rfl
theorem le_maxOf : ∀ {l : List Nat} {x : Nat}, x ∈ l → x ≤ maxOf l
  | [], _, h => by cases h
  | y :: l, x, h => by
    rw [maxOf_cons]
    rcases List.mem_cons.mp h with rfl | h
    · omega
    · have := le_maxOf h; omega
theorem maxOf_le {b : Nat} : ∀ {l : List Nat}, (∀ x ∈ l, x ≤ b) → maxOf l ≤ b
  | [], _ => Nat.zero_le _
  | y :: l, h => by
    rw [maxOf_cons]
    have := h y List.mem_cons_self
    have := maxOf_le fun x hx => h x (List.mem_cons_of_mem y hx)
    omega
theorem maxOf_is {l : List Nat} {m : Nat} (h : m ∈ l) (g : ∀ x ∈ l, x ≤ m) : maxOf l = m := Nat.le_antisymm (maxOf_le g) (le_maxOf h)
def omin : Option Nat → Option Nat → Option Nat
  | none, b => b
  | some a, none => some a
  | some a, some b => some (min a b)
theorem least_cons (x : Nat) (l : List Nat) : Si94.least (x :: l) = omin (some x) (Si94.least l) := by
  rw [Si94.least]
  cases Si94.least l <;> rfl
theorem omin_none (a : Option Nat) : omin a none = a := by cases a <;> rfl
theorem omin_comm (a b : Option Nat) : omin a b = omin b a := by
  cases a <;> cases b <;> simp [omin, Nat.min_comm]
theorem omin_assoc (a b c : Option Nat) : omin (omin a b) c = omin a (omin b c) := by
  cases a <;> cases b <;> cases c <;> simp [omin, Nat.min_assoc]
theorem least_append : ∀ a b : List Nat, Si94.least (a ++ b) = omin (Si94.least a) (Si94.least b)
  | [], b => rfl
  | x :: a, b => by rw [List.cons_append, least_cons, least_cons, least_append a b, omin_assoc]
abbrev Cand := Nat × Nat × Nat
def pick : Option Cand → Cand → Option Cand
  | none, c => some c
  | some b, c => if c.1 < b.1 then some c else some b
theorem pick_some : ∀ (cs : List Cand) (b : Cand), ∃ r : Cand, cs.foldl pick (some b) = some r ∧ r.1 ≤ b.1 ∧ Si94.least ((b :: cs).map (·.1)) = some r.1 ∧ (b :: cs).find? (fun c => c.1 == r.1) = some r
  | [], b => ⟨b, rfl, Nat.le_refl _, rfl, by simp⟩
  | c :: cs, b => by
    by_cases h : c.1 < b.1
    · obtain ⟨r, e, l1, l2, f⟩ := pick_some cs c
      refine ⟨r, ?_, by omega, ?_, ?_⟩
      · rw [List.foldl_cons, show pick (some b) c = some c from if_pos h]; exact e
      · rw [List.map_cons, least_cons, l2]
        show some (min b.1 r.1) = some r.1
        congr 1; omega
      · rw [List.find?_cons_of_neg (by simp; omega)]; exact f
    · obtain ⟨r, e, l1, l2, f⟩ := pick_some cs b
      refine ⟨r, ?_, l1, ?_, ?_⟩
      · rw [List.foldl_cons, show pick (some b) c = some b from if_neg h]; exact e
      · rw [List.map_cons, List.map_cons, least_cons, least_cons, ← omin_assoc, show omin (some b.1) (some c.1) = some b.1 from congrArg some (by omega), ← least_cons, ← List.map_cons, l2]
      · by_cases q : b.1 = r.1
        · rw [List.find?_cons_of_pos (by simp [q])] at f ⊢
          exact f
        · rw [List.find?_cons_of_neg (by simp [q])] at f ⊢
          rw [List.find?_cons_of_neg (by simp; omega)]
          exact f
theorem pick_first {cs : List Cand} (h : cs ≠ []) : ∃ r : Cand, cs.foldl pick none = some r ∧ Si94.least (cs.map (·.1)) = some r.1 ∧ cs.find? (fun c => c.1 == r.1) = some r := by
  cases cs with
  | nil => exact absurd rfl h
  | cons c cs =>
    obtain ⟨r, e, _, l2, f⟩ := pick_some cs c
    exact ⟨r, e, l2, f⟩
def low (cs : List Cand) : Nat := (Si94.least (cs.map (·.1))).getD 0
theorem low_of {cs : List Cand} {r : Cand} (h : cs.foldl pick none = some r) : low cs = r.1 ∧ cs ≠ [] := by
  have ne : cs ≠ [] := fun z => by rw [z] at h; cases h
  obtain ⟨r', e, l, _⟩ := pick_first ne
  rw [h] at e
  cases e
  exact ⟨by rw [low, l]; rfl, ne⟩
section
variable (n L : Nat) (D : Nat → Nat → Nat)
def minuteL : List News → Nat
  | [] => L
  | x :: _ => x.minute
def bestL : List News → Nat → Nat → List Nat → List Cand
  | [], t, p, S => (List.range n).filterMap fun q => if t + D p q ≤ L then some (maxOf (S.map fun v => D q v), q, L) else none
  | x :: l, t, p, S => ((List.range n).filterMap fun q => if t + D p q ≤ x.minute then some (maxOf ((Si94.split x.parts S).map fun u => low (bestL l x.minute q u)), q, x.minute) else none) ++ bestL l t p S
def lateL : List News → Nat → List Nat → Nat
  | [], q, S => maxOf (S.map fun v => D q v)
  | x :: l, q, S => maxOf ((Si94.split x.parts S).map fun u => low (bestL n L D l x.minute q u))
/-- what a place is for, at the stop that stands first -/
def cand (l : List News) (t p : Nat) (S : List Nat) (q : Nat) : Option Cand := if t + D p q ≤ minuteL L l then some (lateL n L D l q S, q, minuteL L l) else none
def row (l : List News) (t p : Nat) (S : List Nat) : List Cand := (List.range n).filterMap (cand n L D l t p S)
theorem bestL_nil (t p : Nat) (S : List Nat) : bestL n L D [] t p S = row n L D [] t p S := by rw [bestL]; rfl
theorem bestL_cons (x : News) (l : List News) (t p : Nat) (S : List Nat) : bestL n L D (x :: l) t p S = row n L D (x :: l) t p S ++ bestL n L D l t p S := by rw [bestL]; rfl
/-- stop by stop -/
theorem bestL_stops : ∀ (l : List News) (t p : Nat) (S : List Nat), (List.range (l.length + 1)).flatMap (fun j => row n L D (l.drop j) t p S) = bestL n L D l t p S
  | [], t, p, S => by
    rw [bestL_nil]
    show List.flatMap _ [0] = _
    simp
  | x :: l, t, p, S => by
    rw [bestL_cons, ← bestL_stops l t p S, List.length_cons, List.range_succ_eq_map, List.flatMap_cons, List.flatMap_map]
    rfl
end
def Ordered (L : Nat) : Nat → List News → Prop
  | t, [] => t ≤ L
  | t, x :: l => t ≤ x.minute ∧ Ordered L x.minute l
theorem Ordered.mono {L : Nat} : ∀ {l : List News} {t s : Nat}, Ordered L t l → s ≤ t → Ordered L s l
  | [], _, _, h, g => Nat.le_trans g h
  | _ :: _, _, _, h, g => ⟨Nat.le_trans g h.1, h.2⟩
theorem Ordered.skip {L t : Nat} {x : News} {l : List News} (h : Ordered L t (x :: l)) : Ordered L t l := h.2.mono h.1
theorem Ordered.land {L : Nat} : ∀ {l : List News} {t : Nat}, Ordered L t l → t ≤ L
  | [], _, h => h
  | _ :: _, _, h => h.skip.land
theorem Ordered.le_minute {L t : Nat} : ∀ {l : List News}, Ordered L t l → t ≤ minuteL L l
  | [], h => h
  | _ :: _, h => h.1
theorem Ordered.minute_le {L t : Nat} : ∀ {l : List News}, Ordered L t l → minuteL L l ≤ L
  | [], _ => Nat.le_refl _
  | _ :: _, h => h.2.land
theorem Ordered.drop {L t : Nat} : ∀ {l : List News}, Ordered L t l → ∀ j, Ordered L t (l.drop j)
  | [], h, j => by rw [List.drop_nil]; exact h
  | _ :: _, h, 0 => h
  | _ :: _, h, j + 1 => h.skip.drop j
theorem worst_some {α : Type} {f : α → Option Nat} {g : α → Nat} : ∀ {l : List α}, (∀ v ∈ l, f v = some (g v)) → Si94.worstOf (l.map f) = some (maxOf (l.map g))
  | [], _ => rfl
  | x :: l, h => by
    rw [List.map_cons, h x List.mem_cons_self, Si94.worstOf, worst_some fun v hv => h v (List.mem_cons_of_mem _ hv)]
    rfl
theorem worst_none : ∀ {l : List (Option Nat)}, none ∈ l → Si94.worstOf l = none
  | none :: _, _ => rfl
  | some m :: l, h => by
    rw [Si94.worstOf, worst_none (by simpa using h)]
    rfl
theorem best_none {l : List (Option Nat)} (h : ∀ x ∈ l, x = none) : Si94.bestOf l = none := by
  have e : l.filterMap (fun x => x) = [] := List.filterMap_eq_nil_iff.mpr h
  rw [Si94.bestOf, e]; rfl
theorem split_sub {p S u : List Nat} (h : u ∈ Si94.split p S) : (∀ v ∈ u, v ∈ S) ∧ u ≠ [] := by
  obtain ⟨k, hk, rfl⟩ := List.mem_map.mp h
  refine ⟨fun v hv => (List.mem_filter.mp hv).1, fun z => ?_⟩
  have hk := List.mem_eraseDups.mp hk
  obtain ⟨v, hv, e⟩ := List.mem_map.mp hk
  have : v ∈ S.filter fun v => p.getD v 0 == k := List.mem_filter.mpr ⟨hv, by rw [e]; exact beq_self_eq_true k⟩
  rw [z] at this; cases this
theorem split_mem {p S : List Nat} {v : Nat} (h : v ∈ S) : ∃ u ∈ Si94.split p S, v ∈ u := by
  refine ⟨S.filter fun x => p.getD x 0 == p.getD v 0, List.mem_map.mpr ⟨p.getD v 0, List.mem_eraseDups.mpr (List.mem_map.mpr ⟨v, h, rfl⟩), rfl⟩, List.mem_filter.mpr ⟨h, by simp⟩⟩
section
variable {c : Chase} {D : Nat → Nat → Nat}
/-- what a way of driving starts from -/
structure Fit (c : Chase) (D : Nat → Nat → Nat) (l : List News) (t p : Nat) (S : List Nat) : Prop where
  at_ : p < c.places
  sub : ∀ v ∈ S, v < c.places
  reach : ∀ v ∈ S, D p v < NO
  ord : Ordered c.landing t l
theorem Fit.skip {l : List News} {x : News} {t p : Nat} {S : List Nat} (h : Fit c D (x :: l) t p S) : Fit c D l t p S := ⟨h.at_, h.sub, h.reach, h.ord.skip⟩
theorem reach_on (h : IsDist c.places c.roads D) {p q v : Nat} (hp : p < c.places) (hq : q < c.places) (hv : v < c.places) (h1 : D p q < NO) (h2 : D p v < NO) : D q v < NO := by
  have g1 := h.gap p q hp hq h1
  have g2 := h.gap p v hp hv h2
  have t := h.tri p q v hp hq hv
  have s := h.sym p q hp hq
  have hNO : NO = 1000000 := rfl
  omega
theorem Fit.heard (h : IsDist c.places c.roads D) (hL : c.landing ≤ 1000) {l : List News} {x : News} {t p q : Nat} {S u : List Nat} (f : Fit c D (x :: l) t p S) (hq : q < c.places) (hr : t + D p q ≤ x.minute) (hu : ∀ v ∈ u, v ∈ S) : Fit c D l x.minute q u where
  at_ := hq
  sub v hv := f.sub v (hu v hv)
  reach v hv := by
    have hNO : NO = 1000000 := rfl
    have := f.ord.2.land
    exact reach_on h f.at_ hq (f.sub v (hu v hv)) (by omega) (f.reach v (hu v hv))
  ord := f.ord.2
/-- someone stays where he is -/
theorem row_stay (h : IsDist c.places c.roads D) {l : List News} {t p : Nat} {S : List Nat} (f : Fit c D l t p S) : row c.places c.landing D l t p S ≠ [] := fun z => by
  have m : (lateL c.places c.landing D l p S, p, minuteL c.landing l) ∈ row c.places c.landing D l t p S := by
    refine List.mem_filterMap.mpr ⟨p, List.mem_range.mpr f.at_, ?_⟩
    unfold cand
    rw [if_pos (by rw [h.self p f.at_]; exact f.ord.le_minute)]
  rw [z] at m; cases m
theorem bestL_ne (h : IsDist c.places c.roads D) {l : List News} {t p : Nat} {S : List Nat} (f : Fit c D l t p S) : bestL c.places c.landing D l t p S ≠ [] := by
  cases l with
  | nil => rw [bestL_nil]; exact row_stay h f
  | cons x l => rw [bestL_cons]; exact fun z => row_stay h f (List.append_eq_nil_iff.mp z).1
theorem filterMap_same {α β : Type} {f g : α → Option β} : ∀ {l : List α}, (∀ q ∈ l, f q = g q) → l.filterMap f = l.filterMap g
  | [], _ => rfl
  | x :: l, h => by
    rw [List.filterMap_cons, List.filterMap_cons, h x List.mem_cons_self, filterMap_same fun q hq => h q (List.mem_cons_of_mem x hq)]
theorem filterMap_id_map {α β : Type} (f : α → Option β) (l : List α) : (l.map f).filterMap (fun x => x) = l.filterMap f := by
  rw [List.filterMap_map]; rfl
theorem low_some (h : IsDist c.places c.roads D) {l : List News} {t p : Nat} {S : List Nat} (f : Fit c D l t p S) : Si94.least ((bestL c.places c.landing D l t p S).map (·.1)) = some (low (bestL c.places c.landing D l t p S)) := by
  obtain ⟨r, _, e, _⟩ := pick_first (bestL_ne h f)
  unfold low
  rw [e]; rfl
/-- a row of the document's, place by place -/
theorem row_is (h : IsDist c.places c.roads D) (ok : RoadsOk c.places c.roads) (hL : c.landing ≤ 1000) {l : List News} {t p : Nat} {S : List Nat} (f : Fit c D l t p S) {late : Nat → Option Nat}
    (hl : ∀ q, q < c.places → t + D p q ≤ minuteL c.landing l → late q = some (lateL c.places c.landing D l q S)) :
    ((List.range c.places).map fun q => match Si94.far c.ways p q with
      | none => none
      | some n => if n ≤ minuteL c.landing l - t then late q else none).filterMap (fun x => x) = (row c.places c.landing D l t p S).map (·.1) := by
  rw [filterMap_id_map, row, List.map_filterMap]
  refine filterMap_same fun q hq => ?_
  have hq := List.mem_range.mp hq
  have hNO : NO = 1000000 := rfl
  have o1 := f.ord.le_minute
  have o2 := f.ord.minute_le
  rw [far_is h ok f.at_ hq]
  unfold cand
  by_cases r : t + D p q ≤ minuteL c.landing l
  · rw [if_pos r, if_pos (by omega)]
    show (if D p q ≤ minuteL c.landing l - t then late q else none) = _
    rw [if_pos (by omega), hl q hq r]
    rfl
  · rw [if_neg r]
    by_cases r2 : D p q < NO
    · rw [if_pos r2]
      show (if D p q ≤ minuteL c.landing l - t then late q else none) = _
      rw [if_neg (by omega)]; rfl
    · rw [if_neg r2]; rfl
theorem value_is (h : IsDist c.places c.roads D) (ok : RoadsOk c.places c.roads) (hL : c.landing ≤ 1000) : ∀ (l : List News) (t p : Nat) (S : List Nat), Fit c D l t p S → c.value c.ways l t p S = Si94.least ((bestL c.places c.landing D l t p S).map (·.1))
  | [], t, p, S, f => by
    rw [Chase.value, bestL_nil, Si94.bestOf]
    refine congrArg Si94.least (row_is h ok hL (l := []) (late := fun q => Si94.worstOf (S.map fun v => Si94.far c.ways q v)) f fun q hq r => ?_)
    refine worst_some fun v hv => ?_
    have hNO : NO = 1000000 := rfl
    have o2 := f.ord.minute_le
    rw [far_is h ok hq (f.sub v hv), if_pos (reach_on h f.at_ hq (f.sub v hv) (by omega) (f.reach v hv))]
  | x :: l, t, p, S, f => by
    rw [Chase.value, bestL_cons, Si94.bestOf, List.map_append, least_append, List.filterMap_cons]
    have e := row_is h ok hL (l := x :: l) (late := fun q => Si94.worstOf ((Si94.split x.parts S).map fun u => c.value c.ways l x.minute q u)) f fun q hq r => by
      refine worst_some fun u hu => ?_
      have f' := f.heard h hL hq r (split_sub hu).1
      rw [value_is h ok hL l x.minute q u f']
      exact low_some h f'
    have e2 := value_is h ok hL l t p S f.skip
    rw [low_some h f.skip] at e2
    rw [e2]
    show Si94.least (_ :: _) = _
    rw [least_cons, omin_comm, low_some h f.skip]
    exact congrArg (fun z => omin (Si94.least z) _) e
/-- where it can't be come to, no way can be -/
theorem value_none (h : IsDist c.places c.roads D) (ok : RoadsOk c.places c.roads) {v : Nat} (hv : v < c.places) : ∀ (l : List News) (t p : Nat) (S : List Nat), p < c.places → v ∈ S → ¬ D p v < NO → c.value c.ways l t p S = none
  | [], t, p, S, hp, hS, hr => by
    rw [Chase.value]
    refine best_none fun x hx => ?_
    obtain ⟨q, hq, rfl⟩ := List.mem_map.mp hx
    have hq := List.mem_range.mp hq
    rw [far_is h ok hp hq]
    by_cases r : D p q < NO
    · rw [if_pos r]
      show (if _ then _ else _) = _
      split
      · refine worst_none (List.mem_map.mpr ⟨v, hS, ?_⟩)
        rw [far_is h ok hq hv, if_neg]
        intro z
        refine hr (reach_on h hq hp hv ?_ z)
        rw [h.sym q p hq hp]; exact r
      · rfl
    · rw [if_neg r]
  | x :: l, t, p, S, hp, hS, hr => by
    rw [Chase.value]
    refine best_none fun y hy => ?_
    rcases List.mem_cons.mp hy with rfl | hy
    · exact value_none h ok hv l t p S hp hS hr
    · obtain ⟨q, hq, rfl⟩ := List.mem_map.mp hy
      have hq := List.mem_range.mp hq
      rw [far_is h ok hp hq]
      by_cases r : D p q < NO
      · rw [if_pos r]
        show (if _ then _ else _) = _
        split
        · obtain ⟨u, hu, hvu⟩ := split_mem (p := x.parts) hS
          refine worst_none (List.mem_map.mpr ⟨u, hu, ?_⟩)
          refine value_none h ok hv l x.minute q u hq hvu fun z => hr (reach_on h hq hp hv ?_ z)
          rw [h.sym q p hq hp]; exact r
        · rfl
      · rw [if_neg r]
theorem find_map {f : Nat → Option Cand} {P : Nat → Bool} {m M : Nat} (h2 : ∀ q c, f q = some c → c.2 = (q, M)) : ∀ {qs : List Nat}, (∀ q ∈ qs, P q = ((f q).map fun c => c.1 == m).getD false) →
    (qs.find? P).map (fun q => (q, M)) = ((qs.filterMap f).find? fun c => c.1 == m).map (·.2)
  | [], _ => rfl
  | q :: qs, h => by
    have hq := h q List.mem_cons_self
    have ih := find_map (m := m) h2 (qs := qs) fun z hz => h z (List.mem_cons_of_mem q hz)
    rw [List.find?_cons, List.filterMap_cons, hq]
    cases e : f q with
    | none => exact ih
    | some c =>
      show Option.map _ (match (c.1 == m) with | true => some q | false => _) = Option.map _ (List.find? _ (c :: _))
      rw [List.find?_cons]
      cases c.1 == m with
      | true =>
        show some (q, M) = some c.2
        rw [h2 q c e]
      | false => exact ih
theorem find_row (h : IsDist c.places c.roads D) (ok : RoadsOk c.places c.roads) (hL : c.landing ≤ 1000) {l : List News} (m : Nat) (f : Fit c D l 0 c.start c.mays) {late : Nat → Option Nat}
    (hl : ∀ q, q < c.places → 0 + D c.start q ≤ minuteL c.landing l → late q = some (lateL c.places c.landing D l q c.mays)) :
    ((List.range c.places).find? fun q => match Si94.far c.ways c.start q with
      | none => false
      | some n => decide (n ≤ minuteL c.landing l) && (late q == some m)).map (fun q => (q, minuteL c.landing l)) = ((row c.places c.landing D l 0 c.start c.mays).find? fun x => x.1 == m).map (·.2) := by
  refine find_map (fun q x e => ?_) fun q hq => ?_
  · unfold cand at e
    split at e
    · cases e; rfl
    · cases e
  · have hq := List.mem_range.mp hq
    have hNO : NO = 1000000 := rfl
    have o2 := f.ord.minute_le
    rw [far_is h ok f.at_ hq]
    unfold cand
    by_cases r : 0 + D c.start q ≤ minuteL c.landing l
    · rw [if_pos r, if_pos (by omega)]
      show (decide (D c.start q ≤ minuteL c.landing l) && (late q == some m)) = (lateL c.places c.landing D l q c.mays == m)
      rw [decide_eq_true (by omega), Bool.true_and, hl q hq r]
      rfl
    · rw [if_neg r]
      by_cases r2 : D c.start q < NO
      · rw [if_pos r2]
        show (decide (D c.start q ≤ minuteL c.landing l) && (late q == some m)) = false
        rw [decide_eq_false (by omega), Bool.false_and]
      · rw [if_neg r2]; rfl
/-- the first place and minute -/
theorem first_is (h : IsDist c.places c.roads D) (ok : RoadsOk c.places c.roads) (hL : c.landing ≤ 1000) (m : Nat) : ∀ (l : List News), Fit c D l 0 c.start c.mays → c.firstFrom c.ways m l = ((bestL c.places c.landing D l 0 c.start c.mays).find? (fun x => x.1 == m)).map (·.2)
  | [], f => by
    rw [Chase.firstFrom, bestL_nil]
    refine find_row h ok hL m f (late := fun z => Si94.worstOf (c.mays.map fun v => Si94.far c.ways z v)) fun q hq r => ?_
    have hNO : NO = 1000000 := rfl
    have o2 := f.ord.minute_le
    exact worst_some fun v hv => by rw [far_is h ok hq (f.sub v hv), if_pos (reach_on h f.at_ hq (f.sub v hv) (by omega) (f.reach v hv))]
  | x :: l, f => by
    have e := find_row h ok hL m f (late := fun q => Si94.worstOf ((Si94.split x.parts c.mays).map fun u => c.value c.ways l x.minute q u)) fun q hq r => by
      refine worst_some fun u hu => ?_
      have f' := f.heard h hL hq r (split_sub hu).1
      rw [value_is h ok hL l x.minute q u f']
      exact low_some h f'
    have ih := first_is h ok hL m l f.skip
    rw [Chase.firstFrom, bestL_cons, List.find?_append, ih]
    change Option.map _ (List.find? (fun q => match Si94.far c.ways c.start q with
      | none => false
      | some n => decide (n ≤ x.minute) && (Si94.worstOf ((Si94.split x.parts c.mays).map fun u => c.value c.ways l x.minute q u) == some m)) _) = _ at e
    cases g : List.find? (fun q => match Si94.far c.ways c.start q with
      | none => false
      | some n => decide (n ≤ x.minute) && (Si94.worstOf ((Si94.split x.parts c.mays).map fun u => c.value c.ways l x.minute q u) == some m)) (List.range c.places) with
    | some q =>
      rw [g] at e
      cases g2 : (row c.places c.landing D (x :: l) 0 c.start c.mays).find? fun x => x.1 == m with
      | none => rw [g2] at e; cases e
      | some y =>
        rw [g2] at e
        exact e
    | none =>
      rw [g] at e
      cases g2 : (row c.places c.landing D (x :: l) 0 c.start c.mays).find? fun x => x.1 == m with
      | none => rfl
      | some y => rw [g2] at e; cases e
end
end Rb

namespace Rb
open Si94 (Chase News)
/-! The state that calls leave, what the three looks for the worst answer, and the list of calls -/
structure Okc (c : Chase) : Prop where
  n1 : 1 ≤ c.places
  n6 : c.places ≤ 6
  st : c.start < c.places
  land : c.landing ≤ 1000
  roads : RoadsOk c.places c.roads
  r12 : c.roads.length ≤ 12
  may1 : 1 ≤ c.may
  may2 : c.may < 2 ^ c.places
  ord : Ordered c.landing 0 c.news
  parts : ∀ x ∈ c.news, x.parts.length = c.places
  n3 : c.news.length ≤ 3
theorem okc_init : Okc Si94.init where
  n1 := by decide
  n6 := by decide
  st := by decide
  land := by decide
  roads := fun u v m h => by cases h
  r12 := by decide
  may1 := by decide
  may2 := by decide
  ord := Nat.le_refl 0
  parts := fun x h => by cases h
  n3 := by decide
theorem Ordered.more {L : Nat} {y : News} : ∀ {l : List News} {t : Nat}, Ordered L t l → y.minute ≤ L → t ≤ y.minute → ((l.getLast?.map fun x => x.minute).getD 0) ≤ y.minute → Ordered L t (l ++ [y])
  | [], _, _, h1, h2, _ => ⟨h2, h1⟩
  | [x], t, h, h1, _, h3 => ⟨h.1, h3, h1⟩
  | x :: z :: l, t, h, h1, h2, h3 => ⟨h.1, Ordered.more (l := z :: l) h.2 h1 (by
      have g : ∀ (l : List News) (s : Nat) (z : News), Ordered L s (z :: l) → s ≤ ((z :: l).getLast?.map fun x => x.minute).getD 0 := by
        intro l
        induction l with
        | nil => intro s z h; exact h.1
        | cons w l ih =>
          intro s z h
          have := ih z.minute w h.2
          rw [List.getLast?_cons_cons]
          exact Nat.le_trans h.1 this
      have := g l x.minute z h.2
      rw [List.getLast?_cons_cons] at h3
      omega) (by rwa [List.getLast?_cons_cons] at h3)⟩
theorem okc_step {c : Chase} (h : Okc c) (q : Si94.Call) : Okc (Si94.step c q).1 := by
  cases q with
  | begins n s t =>
    rw [Si94.step]
    split
    · exact h
    · rename_i g
      simp only [not_or, Nat.not_lt, Nat.not_le, Si94.PLACES, Si94.LONG] at g
      have p : 2 ≤ 2 ^ n := by
        have := Nat.pow_le_pow_right (n := 2) (by decide) g.1
        simpa using this
      exact { n1 := g.1, n6 := g.2.1, st := g.2.2.1, land := g.2.2.2, roads := (fun u v m h => by cases h), r12 := Nat.zero_le _, may1 := (by show 1 ≤ 2 ^ n - 1; omega), may2 := (by show 2 ^ n - 1 < 2 ^ n; omega), ord := Nat.zero_le _, parts := (fun x h => by cases h), n3 := Nat.zero_le _ }
  | road a b n =>
    rw [Si94.step]
    split
    · exact h
    · split
      · exact h
      · split
        · exact h
        · split
          · exact h
          · rename_i g1 g2 g3 g4
            simp only [not_or, Nat.not_lt, Nat.not_le, Si94.ROADS, Si94.LONG] at g1 g3 g4
            exact { h with
              roads := fun u v m e => by
                rcases List.mem_append.mp e with e | e
                · exact h.roads u v m e
                · have := List.mem_singleton.mp e
                  simp only [Prod.mk.injEq] at this
                  obtain ⟨rfl, rfl, rfl⟩ := this
                  exact ⟨g1.1, g1.2, g2, g3.1, g3.2⟩
              r12 := by
                show (c.roads ++ [(a, b, n)]).length ≤ 12
                rw [List.length_append, List.length_singleton]; omega }
  | may s =>
    rw [Si94.step]
    split
    · exact h
    · rename_i g
      simp only [not_or, Nat.not_lt, Nat.not_le] at g
      exact { h with may1 := g.1, may2 := g.2 }
  | news m p =>
    rw [Si94.step]
    split
    · exact h
    · split
      · exact h
      · rename_i g1 g2
        simp only [not_or, Nat.not_lt, Nat.not_le, Si94.NEWS] at g1 g2
        exact { h with
          ord := Ordered.more h.ord g1.2.2 (Nat.zero_le _) g1.2.1
          parts := fun x e => by
            rcases List.mem_append.mp e with e | e
            · exact h.parts x e
            · rw [List.mem_singleton.mp e]
              exact Decidable.not_not.mp g1.1
          n3 := by
            show (c.news ++ [(⟨m, p⟩ : News)]).length ≤ 3
            rw [List.length_append, List.length_singleton]; omega }
  | far a b => rw [Si94.step]; split <;> exact h
  | worst => exact h
  | unknown => exact h
  | known => exact h
theorem mays_lt {c : Chase} {v : Nat} (h : v ∈ c.mays) : v < c.places := List.mem_range.mp (List.mem_filter.mp h).1
theorem mays_nd (c : Chase) : c.mays.Nodup := List.Pairwise.filter _ List.nodup_range
theorem mays_ne {c : Chase} (h : Okc c) : c.mays ≠ [] := fun z => by
  obtain ⟨i, hi⟩ := Nat.exists_testBit_of_ne_zero (show c.may ≠ 0 by have := h.may1; omega)
  have l : i < c.places := by
    rcases Nat.lt_or_ge i c.places with l | l
    · exact l
    · have := Nat.testBit_lt_two_pow (Nat.lt_of_lt_of_le h.may2 (Nat.pow_le_pow_right (by decide : 0 < 2) l))
      rw [this] at hi; cases hi
  have : i ∈ c.mays := List.mem_filter.mpr ⟨List.mem_range.mpr l, hi⟩
  rw [z] at this; cases this
theorem mays_all {n : Nat} : (List.range n).filter (fun v => (2 ^ n - 1).testBit v) = List.range n := by
  refine List.filter_eq_self.mpr fun v hv => ?_
  rw [Nat.testBit_two_pow_sub_one]
  exact decide_eq_true (List.mem_range.mp hv)
section
variable {c : Chase} {D : Nat → Nat → Nat}
theorem fit_of (h : Okc c) (hr : ∀ v ∈ c.mays, D c.start v < NO) : Fit c D c.news 0 c.start c.mays := ⟨h.st, fun v hv => mays_lt hv, hr, h.ord⟩
theorem worst_no (h : Okc c) (d : IsDist c.places c.roads D) {v : Nat} (hv : v ∈ c.mays) (hr : ¬ D c.start v < NO) : (Si94.step c .worst).2 = Si94.ok (-6) := by
  have e : c.worst = none := value_none d h.roads (mays_lt hv) c.news 0 c.start c.mays h.st hv hr
  show (match c.worst with
    | none => Si94.ok (-6)
    | some n => _) = _
  rw [e]
theorem worst_yes (h : Okc c) (d : IsDist c.places c.roads D) (hr : ∀ v ∈ c.mays, D c.start v < NO) : ∃ r : Cand, (bestL c.places c.landing D c.news 0 c.start c.mays).foldl pick none = some r ∧ (Si94.step c .worst).2 = ⟨((r.1 : Nat) : Int), [((r.2.1 : Nat) : Int), ((r.2.2 : Nat) : Int)]⟩ := by
  have f := fit_of h hr
  obtain ⟨r, e1, e2, e3⟩ := pick_first (bestL_ne d f)
  refine ⟨r, e1, ?_⟩
  have w : c.worst = some r.1 := (value_is d h.roads h.land c.news 0 c.start c.mays f).trans e2
  show (match c.worst with
    | none => Si94.ok (-6)
    | some n => ⟨((n : Nat) : Int), Si94.ints (match c.firstFrom c.ways n c.news with
      | none => []
      | some x => [x.1, x.2])⟩) = _
  rw [w]
  show (⟨((r.1 : Nat) : Int), Si94.ints (match c.firstFrom c.ways r.1 c.news with
      | none => []
      | some x => [x.1, x.2])⟩ : Si94.Ans) = _
  rw [first_is d h.roads h.land r.1 c.news f, e3]
  rfl
theorem okc_silent (h : Okc c) : Okc c.silent := { h with
  ord := Nat.zero_le _
  parts := fun x h => by cases h
  n3 := Nat.zero_le _ }
theorem okc_open (h : Okc c) : Okc c.open_ := { h with
  ord := ⟨Nat.le_refl 0, Nat.zero_le _⟩
  parts := fun x e => by
    rw [List.mem_singleton.mp e]
    exact List.length_range
  n3 := (by show 1 ≤ 3; decide) }
theorem unknown_no (h : Okc c) (d : IsDist c.places c.roads D) {v : Nat} (hv : v ∈ c.mays) (hr : ¬ D c.start v < NO) : (Si94.step c .unknown).2 = Si94.ok (-6) := by
  have e : c.silent.worst = none := value_none (c := c.silent) d h.roads (mays_lt hv) [] 0 c.start c.mays h.st hv hr
  show Si94.toldOf c.silent.worst = _
  rw [e]; rfl
theorem unknown_yes (h : Okc c) (d : IsDist c.places c.roads D) (hr : ∀ v ∈ c.mays, D c.start v < NO) : (Si94.step c .unknown).2 = Si94.ok ((low (bestL c.places c.landing D [] 0 c.start c.mays) : Nat) : Int) := by
  have f : Fit c.silent D [] 0 c.start c.mays := fit_of (c := c.silent) (okc_silent h) hr
  have w : c.silent.worst = some (low (bestL c.places c.landing D [] 0 c.start c.mays)) := (value_is (c := c.silent) d h.roads h.land [] 0 c.start c.mays f).trans (low_some (c := c.silent) d f)
  show Si94.toldOf c.silent.worst = _
  rw [w]; rfl
theorem known_no (h : Okc c) (d : IsDist c.places c.roads D) {v : Nat} (hv : v ∈ c.mays) (hr : ¬ D c.start v < NO) : (Si94.step c .known).2 = Si94.ok (-6) := by
  have e : c.open_.worst = none := value_none (c := c.open_) d h.roads (mays_lt hv) _ 0 c.start c.mays h.st hv hr
  show Si94.toldOf c.open_.worst = _
  rw [e]; rfl
theorem least_is {l : List Nat} {x : Nat} (h : x ∈ l) (g : ∀ y ∈ l, x ≤ y) : Si94.least l = some x := by
  obtain ⟨y, e, l1⟩ := least_le h
  have := g y (least_mem e)
  rw [e, show y = x by omega]
theorem filter_one {v : Nat} : ∀ {l : List Nat}, l.Nodup → v ∈ l → l.filter (fun x => x == v) = [v]
  | [], _, h => by cases h
  | x :: l, hn, h => by
    have hn' := List.nodup_cons.mp hn
    by_cases e : x = v
    · subst e
      rw [List.filter_cons, if_pos (beq_self_eq_true x), List.filter_eq_nil_iff.mpr]
      intro y hy z
      exact hn'.1 (by rw [← eq_of_beq z]; exact hy)
    · rw [List.filter_cons, if_neg (by simpa using e)]
      refine filter_one hn'.2 ?_
      rcases List.mem_cons.mp h with z | z
      · exact absurd z.symm e
      · exact z
theorem zero_here (h : Okc c) (d : IsDist c.places c.roads D) {q : Nat} (hq : q < c.places) (e : D c.start q = 0) : q = c.start := by
  have w := d.walk c.start q h.st hq (by rw [e]; decide)
  rw [e] at w
  generalize hz : (0 : Nat) = z at w
  cases w with
  | here _ => rfl
  | step w x l =>
    have := (h.roads.edge x).2.2.2.1
    omega
theorem known_yes (h : Okc c) (d : IsDist c.places c.roads D) (hr : ∀ v ∈ c.mays, D c.start v < NO) : (Si94.step c .known).2 = Si94.ok ((maxOf (c.mays.map fun v => low (bestL c.places c.landing D [] 0 c.start [v])) : Nat) : Int) := by
  have f : Fit c.open_ D c.open_.news 0 c.start c.mays := fit_of (c := c.open_) (okc_open h) hr
  have w := value_is (c := c.open_) d h.roads h.land c.open_.news 0 c.start c.mays f
  have fs : Fit c D [] 0 c.start c.mays := ⟨h.st, fun v hv => mays_lt hv, hr, Nat.zero_le _⟩
  have f1 : ∀ v ∈ c.mays, Fit c D [] 0 c.start [v] := fun v hv => ⟨h.st, fun x hx => by rw [List.mem_singleton.mp hx]; exact mays_lt hv, fun x hx => by rw [List.mem_singleton.mp hx]; exact hr v hv, Nat.zero_le _⟩
  -- of all ways without news the best one of all is no better than the best for each place
  have le : maxOf (c.mays.map fun v => low (bestL c.places c.landing D [] 0 c.start [v])) ≤ low (bestL c.places c.landing D [] 0 c.start c.mays) := by
    refine maxOf_le fun x hx => ?_
    obtain ⟨v, hv, rfl⟩ := List.mem_map.mp hx
    have m := least_mem (low_some d fs)
    obtain ⟨y, hy, e⟩ := List.mem_map.mp m
    rw [bestL_nil] at hy
    obtain ⟨q, hq, e2⟩ := List.mem_filterMap.mp hy
    unfold cand at e2
    split at e2
    · rename_i g
      cases e2
      have g : 0 + D c.start q ≤ c.landing := g
      have mem : (D q v) ∈ (bestL c.places c.landing D [] 0 c.start [v]).map (·.1) := by
        rw [bestL_nil]
        refine List.mem_map.mpr ⟨(D q v, q, c.landing), List.mem_filterMap.mpr ⟨q, hq, ?_⟩, rfl⟩
        unfold cand
        rw [if_pos (by exact g)]
        show some (maxOf [D q v], q, c.landing) = _
        rw [show maxOf [D q v] = D q v from maxOf_is List.mem_cons_self fun x hx => by rw [List.mem_singleton.mp hx]; exact Nat.le_refl _]
      obtain ⟨z, ez, lz⟩ := least_le mem
      have ez2 := (low_some d (f1 v hv)).symm.trans ez
      cases ez2
      refine Nat.le_trans lz ?_
      rw [← e]
      exact le_maxOf (List.mem_map.mpr ⟨v, hv, rfl⟩)
    · cases e2
  have rowe : Si94.least ((row c.places c.landing D [⟨0, List.range c.places⟩] 0 c.start c.mays).map (·.1)) = some (maxOf (c.mays.map fun v => low (bestL c.places c.landing D [] 0 c.start [v]))) := by
    have late : lateL c.places c.landing D [⟨0, List.range c.places⟩] c.start c.mays = maxOf (c.mays.map fun v => low (bestL c.places c.landing D [] 0 c.start [v])) := by
      have gd : ∀ v ∈ c.mays, (List.range c.places).getD v 0 = v := fun v hv => by
        rw [List.getD_eq_getElem?_getD, List.getElem?_range (mays_lt hv)]; rfl
      have one : ∀ v ∈ c.mays, (c.mays.filter fun x => (List.range c.places).getD x 0 == v) = [v] := fun v hv => by
        rw [← filter_one (mays_nd c) hv]
        exact List.filter_congr fun x hx => by rw [gd x hx]
      refine Nat.le_antisymm (maxOf_le fun x hx => ?_) (maxOf_le fun x hx => ?_)
      · obtain ⟨u, hu, rfl⟩ := List.mem_map.mp hx
        obtain ⟨k, hk, rfl⟩ := List.mem_map.mp hu
        obtain ⟨v, hv, e⟩ := List.mem_map.mp (List.mem_eraseDups.mp hk)
        rw [gd v hv] at e
        subst e
        rw [one v hv]
        exact le_maxOf (List.mem_map.mpr ⟨v, hv, rfl⟩)
      · obtain ⟨v, hv, rfl⟩ := List.mem_map.mp hx
        refine le_maxOf (List.mem_map.mpr ⟨[v], List.mem_map.mpr ⟨v, List.mem_eraseDups.mpr (List.mem_map.mpr ⟨v, hv, gd v hv⟩), one v hv⟩, rfl⟩)
    rw [← late]
    refine least_is (List.mem_map.mpr ⟨(_, c.start, 0), List.mem_filterMap.mpr ⟨c.start, List.mem_range.mpr h.st, ?_⟩, rfl⟩) fun y hy => ?_
    · unfold cand
      rw [d.self c.start h.st]
      exact if_pos (Nat.le_refl 0)
    · obtain ⟨z, hz, rfl⟩ := List.mem_map.mp hy
      obtain ⟨q, hq, e⟩ := List.mem_filterMap.mp hz
      unfold cand at e
      split at e
      · rename_i g
        have g : 0 + D c.start q ≤ 0 := g
        have := zero_here h d (List.mem_range.mp hq) (by omega)
        subst this
        cases e
        exact Nat.le_refl _
      · cases e
  have w2 : c.open_.worst = some (maxOf (c.mays.map fun v => low (bestL c.places c.landing D [] 0 c.start [v]))) := by
    refine w.trans ?_
    show Si94.least ((bestL c.places c.landing D [⟨0, List.range c.places⟩] 0 c.start c.mays).map (·.1)) = _
    rw [bestL_cons, List.map_append, least_append, rowe, low_some d fs]
    exact congrArg some (Nat.min_eq_left le)
  show Si94.toldOf c.open_.worst = _
  rw [w2]; rfl
theorem far_told (h : Okc c) (d : IsDist c.places c.roads D) {a b : Nat} (ha : a < c.places) (hb : b < c.places) : (Si94.step c (.far a b)).2 = Si94.ok (if D a b = NO then -6 else ((D a b : Nat) : Int)) := by
  have e := far_is d h.roads ha hb
  have l := d.le a b ha hb
  have hNO : NO = 1000000 := rfl
  rw [Si94.step, if_neg (by omega)]
  show Si94.toldOf (Si94.far c.ways a b) = _
  rw [e]
  by_cases q : D a b < NO
  · rw [if_pos q, if_neg (by omega)]; rfl
  · rw [if_neg q, if_pos (by omega)]; rfl
end
end Rb

namespace Rb
open Si94 (Chase News)
/-! The list of calls, read call by call -/
def casts (l : List Nat) : List Int := l.map fun n => ((n : Nat) : Int)
inductive Told : List Int → Si94.Call → Prop
  | begins (n s t : Nat) : Told (casts [0, n, s, t]) (.begins n s t)
  | road (x y m : Nat) : Told (casts [1, x, y, m]) (.road x y m)
  | may (s : Nat) : Told (casts [2, s]) (.may s)
  | news (m : Nat) (p : List Nat) : p.length ≤ 8 → Told (casts (3 :: m :: p)) (.news m p)
  | far (x y : Nat) : Told (casts [4, x, y]) (.far x y)
  | worst : Told (casts [5]) .worst
  | unknown : Told (casts [6]) .unknown
  | known : Told (casts [7]) .known
theorem casts_toNat : ∀ {l : List Int}, (l.all fun z => Si94Neutral.natural z 32) = true → casts (l.map Int.toNat) = l
  | [], _ => rfl
  | z :: l, h => by
    rw [List.all_cons, Bool.and_eq_true] at h
    obtain ⟨h1, h2⟩ := h
    unfold Si94Neutral.natural at h1
    rw [Bool.and_eq_true] at h1
    have h0 : 0 ≤ z := of_decide_eq_true h1.1
    show ((z.toNat : Nat) : Int) :: casts (l.map Int.toNat) = z :: l
    rw [casts_toNat h2]
    congr 1
    omega
theorem told_of {l : List Int} (h : (l.all fun z => Si94Neutral.natural z 32) = true) {q : Si94.Call} (e : Si94Neutral.callOf l = some q) : Told l q := by
  have c := casts_toNat h
  generalize l.map Int.toNat = L at c
  subst c
  have e2 : (casts L).map Int.toNat = L := by
    unfold casts
    rw [List.map_map]
    exact (List.map_congr_left fun x _ => Int.toNat_natCast x).trans (List.map_id _)
  unfold Si94Neutral.callOf at e
  rw [e2] at e
  split at e
  · cases e; exact .begins _ _ _
  · cases e; exact .road _ _ _
  · cases e; exact .may _
  · split at e
    · cases e; exact .news _ _ ‹_›
    · cases e
  · cases e; exact .far _ _
  · cases e; exact .worst
  · cases e; exact .unknown
  · cases e; exact .known
  · cases e
/-- a list of calls as it may be handed in -/
def Good (cs : List (List (List Int))) : Prop := ∀ c ∈ cs, PyWide.okCall c ∧ Si94Neutral.asked1 c = true
theorem good_of {ns : List Int} (h : PySi94.answers_asked ns = true) : ∃ cs, ns = PyWide.put cs ∧ Good cs ∧ PySi94.answers ns = PyFlat.told (PyFlat.played Si94Neutral.step Si94Neutral.start cs) := by
  unfold PySi94.answers_asked at h
  cases e : PySi94.calls ns with
  | none => rw [e] at h; cases h
  | some cs =>
    rw [e] at h
    have h : (!cs.isEmpty && cs.all PySi94.fits && PyFlat.atMost 60 cs && Si94Neutral.asked cs && PyFlat.short 10000000 (PySi94.answers ns)) = true := h
    simp only [Bool.and_eq_true] at h
    have a := h.1.2
    unfold Si94Neutral.asked at a
    rw [Bool.and_eq_true] at a
    have a1 := List.all_eq_true.mp a.1
    obtain ⟨p1, p2⟩ := PyWide.put_calls _ _ _ e
    refine ⟨cs, p1, fun c hc => ⟨p2 c hc, a1 c hc⟩, ?_⟩
    unfold PySi94.answers
    rw [e]
theorem put_nil_of {cs : List (List (List Int))} (h : Good cs) (e : PyWide.put cs = []) : cs = [] := by
  cases cs with
  | nil => rfl
  | cons c cs =>
    obtain ⟨p, ns, xs, rfl⟩ := (h c List.mem_cons_self).1
    unfold PyWide.put PyWide.put1 at e
    cases e
theorem good_cons {c : List (List Int)} {cs : List (List (List Int))} (h : Good (c :: cs)) : ∃ (z : Int) (xs : List Int) (q : Si94.Call), c = [z :: xs] ∧ Told (z :: xs) q ∧ Si94Neutral.callOf (z :: xs) = some q ∧ PyWide.put (c :: cs) = z :: ((xs.length : Nat) : Int) :: (xs ++ 0 :: PyWide.put cs) ∧ Good cs := by
  obtain ⟨⟨p, ns, xs, rfl⟩, a⟩ := h c List.mem_cons_self
  unfold Si94Neutral.asked1 at a
  simp only [Bool.and_eq_true, beq_iff_eq, List.length_cons] at a
  obtain ⟨a1, a2, a3⟩ := a
  have ex : xs = [] := List.length_eq_zero_iff.mp (by omega)
  subst ex
  obtain ⟨q, hq⟩ := Option.isSome_iff_exists.mp a3
  refine ⟨p, ns, q, rfl, told_of a2 hq, hq, ?_, fun d hd => h d (List.mem_cons_of_mem _ hd)⟩
  show PyWide.put1 [p :: ns] ++ PyWide.put cs = _
  rw [PyWide.put1_append]
  rfl
/-- what a call answers, as it is given back -/
def said (c : Chase) (q : Si94.Call) : List Int := (Si94.step c q).2.v :: (Si94.step c q).2.l
theorem told_played {c : Chase} {q : Si94.Call} {l : List Int} {cs : List (List (List Int))} (e : Si94Neutral.callOf l = some q) : PyFlat.told (PyFlat.played Si94Neutral.step c ([l] :: cs)) = (((said c q).length : Nat) : Int) :: (said c q ++ PyFlat.told (PyFlat.played Si94Neutral.step (Si94.step c q).1 cs)) := by
  have s : Si94Neutral.step c [l] = ((Si94.step c q).1, said c q) := by
    unfold Si94Neutral.step
    show (match Si94Neutral.callOf l with
      | none => (c, [])
      | some q => _) = _
    rw [e]; rfl
  show PyFlat.told ((Si94Neutral.step c [l]).2 :: PyFlat.played Si94Neutral.step (Si94Neutral.step c [l]).1 cs) = _
  rw [s]
  rfl
theorem said_one {c : Chase} {q : Si94.Call} (h : q ≠ .worst) : (Si94.step c q).2.l = [] := by
  cases q with
  | begins n s t => rw [Si94.step]; split <;> rfl
  | road a b n => rw [Si94.step]; split; · rfl
                  split; · rfl
                  split; · rfl
                  split <;> rfl
  | may s => rw [Si94.step]; split <;> rfl
  | news m p => rw [Si94.step]; split; · rfl
                split <;> rfl
  | far a b =>
    rw [Si94.step]; split
    · rfl
    · show (Si94.toldOf _).l = []
      unfold Si94.toldOf; split <;> rfl
  | worst => exact absurd rfl h
  | unknown =>
    show (Si94.toldOf _).l = []
    unfold Si94.toldOf; split <;> rfl
  | known =>
    show (Si94.toldOf _).l = []
    unfold Si94.toldOf; split <;> rfl
theorem said_few {c : Chase} {q : Si94.Call} : (said c q).length ≤ 3 := by
  unfold said
  by_cases h : q = .worst
  · subst h
    show (match c.worst with
      | none => Si94.ok (-6)
      | some n => _ : Si94.Ans).l.length + 1 ≤ 3
    split
    · decide
    · show (Si94.ints _).length + 1 ≤ 3
      unfold Si94.ints
      rw [List.length_map]
      split <;> exact Nat.le_of_ble_eq_true rfl
  · rw [said_one h]; exact Nat.le_of_ble_eq_true rfl
theorem far_stays {c : Chase} {x y : Nat} : (Si94.step c (.far x y)).1 = c := by
  rw [Si94.step]; split <;> rfl
end Rb

namespace Rb
open PySem PySem.Spec PyProof.Rows L2
/-! ### the text by places -/
def top (i : Nat) : Stmt := PySem.Challenge.pw_roadbehind_s01_answers.main.body.getD i (.Pass ⟨0, 0, 0, 0⟩)
abbrev sShort : Stmt := top 2
abbrev sStraight : Stmt := top 3
abbrev sWInit : Stmt := inClass (top 5) 0
abbrev sBest : Stmt := inClass (top 5) 1
abbrev sMinute : Stmt := inClass (top 5) 2
abbrev sLate : Stmt := inClass (top 5) 3
abbrev sParted : Stmt := top 6
abbrev sCInit : Stmt := inClass (top 13) 0
abbrev sAnew : Stmt := inClass (top 13) 1
abbrev sBegins : Stmt := inClass (top 13) 2
abbrev sRoad : Stmt := inClass (top 13) 3
abbrev sMay : Stmt := inClass (top 13) 4
abbrev sNews : Stmt := inClass (top 13) 5
abbrev sLast : Stmt := inClass (top 13) 6
abbrev sFar : Stmt := inClass (top 13) 7
abbrev sWorst : Stmt := inClass (top 13) 8
abbrev sUnknown : Stmt := inClass (top 13) 9
abbrev sKnown : Stmt := inClass (top 13) 10
abbrev sLeast : Stmt := inClass (top 13) 11
abbrev sWays : Stmt := inClass (top 13) 12
abbrev sNoWay : Stmt := inClass (top 13) 13
abbrev sAnswers : Stmt := top 24
abbrev sAnswer : Stmt := top 25
/-! ### what lies in the heap -/
abbrev vN (n : Nat) : V := .int ((n : Nat) : Int)
def natsV (l : List Nat) : List V := l.map vN
theorem natsV_length (l : List Nat) : (natsV l).length = l.length := List.length_map _
theorem natsV_get {l : List Nat} {i x : Nat} (h : l[i]? = some x) : (natsV l)[i]? = some (vN x) := by
  unfold natsV
  rw [List.getElem?_map, h]; rfl
theorem natsV_got {l : List Nat} {i : Nat} {y : V} (h : (natsV l)[i]? = some y) : ∃ x, l[i]? = some x ∧ y = vN x := by
  unfold natsV at h
  rw [List.getElem?_map] at h
  cases e : l[i]? with
  | none => rw [e] at h; cases h
  | some x => rw [e] at h; exact ⟨x, rfl, (Option.some.inj h).symm⟩
theorem same_new {H : Hp} {p : Addr} (h : H p = none) (o : HO) : Same H (upd H p o) := fun b u q => by rw [upd_ne (ne_of_none q h)]; exact q
theorem same_over {H0 H : Hp} {p : Addr} (s : Same H0 H) (h : H0 p = none) (o : HO) : Same H0 (upd H p o) := fun b u q => by rw [upd_ne (ne_of_none q h)]; exact s b u q
theorem line1000 {n : Nat} (h : n ≤ 1000) : n ≤ sizeLine := Nat.le_of_lt (small1000 h)
theorem small62 {n : Nat} (h : n ≤ 100000) : -(2 ^ 62) ≤ ((n : Nat) : Int) ∧ ((n : Nat) : Int) < 2 ^ 62 := by omega
theorem take_more {α : Type} : ∀ {l : List α} {i : Nat} {x : α}, l[i]? = some x → l.take (i + 1) = l.take i ++ [x]
  | [], i, x, h => by simp at h
  | a :: l, 0, x, h => by
    have e : a = x := Option.some.inj h
    subst e
    rfl
  | a :: l, i + 1, x, h => by
    have ih := take_more (l := l) (i := i) (x := x) h
    show a :: l.take (i + 1) = a :: l.take i ++ [x]
    rw [ih]
    rfl
theorem paired_same {α β : Type} {F G : α → β → Prop} (f : ∀ a b, F a b → G a b) : ∀ {l : List α} {m : List β}, Paired F l m → Paired G l m
  | _, _, .nil => .nil
  | _, _, .cons r t => .cons (f _ _ r) (paired_same f t)
theorem paired_len {α β : Type} {F : α → β → Prop} : ∀ {l : List α} {m : List β}, Paired F l m → l.length = m.length
  | _, _, .nil => rfl
  | _, _, .cons _ t => congrArg (· + 1) (paired_len t)
theorem paired_get {α β : Type} {F : α → β → Prop} : ∀ {l : List α} {m : List β}, Paired F l m → ∀ {i : Nat} {x : α}, l[i]? = some x → ∃ y, m[i]? = some y ∧ F x y
  | _, _, .nil, i, x, h => by simp at h
  | _, _, .cons r t, 0, x, h => by
    have e := Option.some.inj h
    subst e
    exact ⟨_, rfl, r⟩
  | _, _, .cons r t, i + 1, x, h => paired_get t (i := i) h
theorem paired_got {α β : Type} {F : α → β → Prop} : ∀ {l : List α} {m : List β}, Paired F l m → ∀ {i : Nat} {y : β}, m[i]? = some y → ∃ x, l[i]? = some x ∧ F x y
  | _, _, .nil, i, x, h => by simp at h
  | _, _, .cons r t, 0, x, h => by
    have e := Option.some.inj h
    subst e
    exact ⟨_, rfl, r⟩
  | _, _, .cons r t, i + 1, x, h => paired_got t (i := i) h
theorem refs_got {l : List Addr} {i : Nat} {y : V} (h : (l.map V.ref)[i]? = some y) : ∃ x, l[i]? = some x ∧ y = .ref x := by
  rw [List.getElem?_map] at h
  cases e : l[i]? with
  | none => rw [e] at h; cases h
  | some x => rw [e] at h; exact ⟨x, rfl, (Option.some.inj h).symm⟩
theorem refs_get {l : List Addr} {i : Nat} {x : Addr} (h : l[i]? = some x) : (l.map V.ref)[i]? = some (.ref x) := by
  rw [List.getElem?_map, h]; rfl
/-! roads and news -/
def RoadsAt (H : Hp) (ts : List Addr) (roads : List (Nat × Nat × Nat)) : Prop := Paired (fun t r => H t = some (.tup [vN r.1, vN r.2.1, vN r.2.2])) ts roads
theorem RoadsAt.same {H H' : Hp} {ts : List Addr} {roads : List (Nat × Nat × Nat)} (h : RoadsAt H ts roads) (s : Same H H') : RoadsAt H' ts roads := paired_same (fun _ _ q => s _ _ q) h
def NewsAt (H : Hp) (ts : List Addr) (news : List Si94.News) : Prop := Paired (fun t (x : Si94.News) => ∃ p, H t = some (.tup [vN x.minute, .ref p]) ∧ H p = some (.lst (natsV x.parts))) ts news
theorem NewsAt.same {H H' : Hp} {ts : List Addr} {news : List Si94.News} (h : NewsAt H ts news) (s : Same H H') : NewsAt H' ts news := paired_same (fun _ _ ⟨p, q, r⟩ => ⟨p, s _ _ q, s _ _ r⟩) h
/-! the table of minutes -/
def rowV (n : Nat) (f : Nat → Nat) : List V := (List.range n).map fun q => vN (f q)
theorem rowV_length (n : Nat) (f : Nat → Nat) : (rowV n f).length = n := by unfold rowV; rw [List.length_map, List.length_range]
theorem rowV_get {n q : Nat} (f : Nat → Nat) (h : q < n) : (rowV n f)[q]? = some (vN (f q)) := by
  unfold rowV
  rw [List.getElem?_map, List.getElem?_range h]; rfl
theorem rowV_ext {n : Nat} {f g : Nat → Nat} (h : ∀ q, q < n → f q = g q) : rowV n f = rowV n g := by
  unfold rowV
  exact List.map_congr_left fun q hq => by rw [h q (List.mem_range.mp hq)]
theorem rowV_set {n q v : Nat} (f : Nat → Nat) : (rowV n f).set q (vN v) = rowV n fun x => if x = q then v else f x := by
  refine List.ext_getElem? fun i => ?_
  by_cases hi : i < n
  · rw [rowV_get _ hi]
    by_cases e : q = i
    · subst e
      rw [List.getElem?_set_self (by rw [rowV_length]; exact hi), if_pos rfl]
    · rw [List.getElem?_set_ne e, rowV_get _ hi, if_neg (fun z => e z.symm)]
  · rw [List.getElem?_eq_none (by rw [List.length_set, rowV_length]; omega), List.getElem?_eq_none (by rw [rowV_length]; omega)]
theorem rowV_same (n v : Nat) : rowV n (fun _ => v) = List.replicate n (vN v) := by
  unfold rowV
  rw [List.map_const', List.length_range]
structure MatAt (H : Hp) (d : Addr) (rs : List Addr) (n : Nat) (D : Nat → Nat → Nat) : Prop where
  at_ : H d = some (.lst (rs.map V.ref))
  len : rs.length = n
  rows : ∀ i r, rs[i]? = some r → H r = some (.lst (rowV n (D i)))
theorem MatAt.same {H H' : Hp} {d : Addr} {rs : List Addr} {n : Nat} {D : Nat → Nat → Nat} (h : MatAt H d rs n D) (s : Same H H') : MatAt H' d rs n D := ⟨s _ _ h.at_, h.len, fun i r e => s _ _ (h.rows i r e)⟩
theorem MatAt.ext {H : Hp} {d : Addr} {rs : List Addr} {n : Nat} {D D' : Nat → Nat → Nat} (h : MatAt H d rs n D) (e : ∀ a b, a < n → b < n → D' a b = D a b) : MatAt H d rs n D' := ⟨h.at_, h.len, fun i r q => by
  have l : i < n := by rw [← h.len]; exact (List.getElem?_eq_some_iff.mp q).1
  rw [h.rows i r q, rowV_ext fun b hb => e i b l hb]⟩
/-- a table that is made: all its lists are new -/
structure MatOwn (H0 H : Hp) (d : Addr) (rs : List Addr) (n : Nat) (D : Nat → Nat → Nat) : Prop where
  mat : MatAt H d rs n D
  same : Same H0 H
  nd : rs.Nodup
  off : d ∉ rs
  newd : H0 d = none
  newr : ∀ r ∈ rs, H0 r = none
theorem MatOwn.row {H0 H : Hp} {d : Addr} {rs : List Addr} {n : Nat} {D : Nat → Nat → Nat} (h : MatOwn H0 H d rs n D) {p : Nat} (hp : p < n) : ∃ r, rs[p]? = some r ∧ (rs.map V.ref)[p]? = some (.ref r) ∧ H r = some (.lst (rowV n (D p))) := by
  have l : p < rs.length := by rw [h.mat.len]; exact hp
  have e : rs[p]? = some rs[p] := List.getElem?_eq_getElem l
  exact ⟨rs[p], e, refs_get e, h.mat.rows p _ e⟩
theorem MatOwn.ext {H0 H : Hp} {d : Addr} {rs : List Addr} {n : Nat} {D D' : Nat → Nat → Nat} (h : MatOwn H0 H d rs n D) (e : ∀ a b, a < n → b < n → D' a b = D a b) : MatOwn H0 H d rs n D' := { h with mat := h.mat.ext e }
theorem MatOwn.put {H0 H : Hp} {d : Addr} {rs : List Addr} {n : Nat} {D : Nat → Nat → Nat} (h : MatOwn H0 H d rs n D) {p q v : Nat} {r : Addr} (hr : rs[p]? = some r) :
    MatOwn H0 (upd H r (.lst ((rowV n (D p)).set q (vN v)))) d rs n fun a b => if a = p ∧ b = q then v else D a b where
  mat := by
    have hm : r ∈ rs := List.mem_of_getElem? hr
    refine ⟨?_, h.mat.len, fun i r' e => ?_⟩
    · rw [upd_ne (fun z => h.off (by rw [z]; exact hm))]
      exact h.mat.at_
    · by_cases z : r' = r
      · subst z
        obtain rfl : i = p := nd_ix h.nd e hr
        rw [upd_same, rowV_set]
        refine congrArg (fun z => some (HO.lst z)) (rowV_ext fun x _ => ?_)
        by_cases c : x = q
        · rw [if_pos c, if_pos ⟨rfl, c⟩]
        · rw [if_neg c, if_neg (fun z => c z.2)]
      · rw [upd_ne z, h.mat.rows i r' e]
        refine congrArg (fun z => some (HO.lst z)) (rowV_ext fun x _ => ?_)
        rw [if_neg]
        rintro ⟨rfl, _⟩
        rw [hr] at e
        exact z (Option.some.inj e).symm
  same := same_over h.same (h.newr r (List.mem_of_getElem? hr)) _
  nd := h.nd
  off := h.off
  newd := h.newd
  newr := h.newr
theorem ixN_nat {n j : Nat} (h : j < n) : ixN n ((j : Nat) : Int) = some j := by
  unfold ixN
  rw [if_pos (by omega), if_pos (by omega)]; simp
/-! what the top has written: classes, constants, built-ins -/
structure Txt (K : PySem.W.Frag) (mg : Str → Option Value) (CW CC : Addr) : Prop where
  clW : Cls K CW
  clC : Cls K CC
  nDr : NoAttr K CW "drives"
  nLa : NoAttr K CW "landing"
  nNt : NoAttr K CW "news_told"
  cPl : NoAttr K CC "places"
  cCa : NoAttr K CC "car"
  cLa : NoAttr K CC "landing"
  cLp : NoAttr K CC "landing_places"
  cRd : NoAttr K CC "roads"
  cNt : NoAttr K CC "news_told"
  gW : mg "Ways" = some (.ref CW)
  gC : mg "Chase" = some (.ref CC)
  gNo : ∃ t, mg "NO_DRIVE" = some (.int 1000000 t)
  gMp : ∃ t, mg "MOST_PLACES" = some (.int 6 t)
  gMr : ∃ t, mg "MOST_ROADS" = some (.int 12 t)
  gMn : ∃ t, mg "MOST_NEWS" = some (.int 3 t)
  gLl : ∃ t, mg "LATEST_LANDING" = some (.int 1000 t)
  gLr : ∃ t, mg "LONGEST_ROAD" = some (.int 1000 t)
  g0 : ∃ t, mg "BEGINS" = some (.int 0 t)
  g1 : ∃ t, mg "ROAD" = some (.int 1 t)
  g2 : ∃ t, mg "MAY" = some (.int 2 t)
  g3 : ∃ t, mg "NEWS" = some (.int 3 t)
  g4 : ∃ t, mg "FAR" = some (.int 4 t)
  g5 : ∃ t, mg "WORST" = some (.int 5 t)
  g6 : ∃ t, mg "UNKNOWN" = some (.int 6 t)
  g7 : ∃ t, mg "KNOWN" = some (.int 7 t)
  len : mg "len" = none
  range : mg "range" = none
  min : mg "min" = none
  max : mg "max" = none
  any : mg "any" = none
  list : mg "list" = none
end Rb

namespace Rb
open PySem PySem.Spec PyProof.Rows L2
/-- a table of shortest drives is given back, new -/
def spTable (good : Nat → List (Nat × Nat × Nat) → (Nat → Nat → Nat) → Prop) : Sp := fun vs H Q _ => ∃ (n : Nat) (rd : Addr) (ts : List Addr) (roads : List (Nat × Nat × Nat)), vs = [vN n, .ref rd] ∧ n ≤ 6 ∧ H rd = some (.lst (ts.map V.ref)) ∧ RoadsAt H ts roads ∧ RoadsOk n roads ∧ ts.length ≤ 12 ∧
  ∀ (H' : Hp) (d : Addr) (rs : List Addr) (D : Nat → Nat → Nat), MatOwn H H' d rs n D → good n roads D → Q (.ref d) H'
section
variable {P : Program} {w : World} {K : PySem.W.Frag} {mg : Str → Option Value} {base : Heap} {CW CC : Addr}
abbrev nStraight : List Str := ["places", "roads", "place", "drives", "other", "minutes", "shorter"]
theorem scStraight : FnScope nStraight ["places", "roads"] (defScope sStraight) := ⟨rfl, rfl, rfl, by decide +kernel, rfl, by decide +kernel, by decide +kernel⟩
theorem ok_straight {f : Addr} {fd : FuncData} (F : Fun K "straight_drives" "straight_drives" sStraight f fd) (T : Txt K mg CW CC) : FnOk P w K mg base CX0 1 f fd ["places", "roads"] (spTable IsStraight) := by
  refine F.ok scStraight (fun vs H Q E h => ?_) (fun cdv A outer s H vs Q E hr h => ?_)
  · obtain ⟨n, rd, ts, roads, rfl, _⟩ := h
    rfl
  obtain ⟨n, rd, ts, roads, rfl, hn, hrd, hro, hok, hlen, q⟩ := h
  obtain ⟨tN, gN⟩ := T.gNo
  have nd := scStraight.nd
  refine ⟨_, pss_cons (ps_setLc (i := 3) (own := [("place", 2)]) (g := gName 2) (tt := tYes) (by rfl) nd rfl rfl (sw_true rfl rfl rfl (by decide +kernel)) (pi_range1 rfl T.range (pa_cons (pv 0) pa_nil))
      (blkOk_by (own := [("place", 2)]) (N := nStraight) (sc := defScope sStraight) (by decide +kernel)) (fun _ _ _ _ _ => pg_name (i := 2) nd rfl (Or.inl rfl)) (fun _ _ _ _ _ => pts_nil)
      (fun _ _ _ _ _ => pe_op op_rep (pe_lst (pa_cons (pe_glob (v := .int 1000000) rfl gN ⟨_, rfl⟩) pa_nil)) (pv 0)))
    (pss_cons (ps_for PassesOwn.never rfl (pi_range1 rfl T.range (pa_cons (pv 0) pa_nil)) (pg_name (i := 2) nd rfl (Or.inl rfl))
      (pss_one (ps_asg pe_int (pg_sub (pe_ix ix_list (pv 3) (pv 2) (fun _ _ => rfl)) (pv 2) set_list))))
    (pss_cons (ps_for PassesOwn.never rfl (pi_list (pv 1)) (pg_tup rfl (pgs_cons (pg_name (i := 2) nd rfl (Or.inl rfl)) (pgs_cons (pg_name (i := 4) nd rfl (Or.inl rfl)) (pgs_cons (pg_name (i := 5) nd rfl (Or.inl rfl)) pgs_nil))))
      (pss_cons (ps_set (i := 6) nd rfl (Or.inl rfl) (pe_callB (call_min2 rfl) (by rfl) T.min (by decide +kernel) (pa_cons (pv 5) (pa_cons (pe_ix ix_list (pe_ix ix_list (pv 3) (pv 2) (fun _ _ => rfl)) (pv 4) (fun _ _ => rfl)) pa_nil))))
      (pss_cons (ps_asg (pv 6) (pg_sub (pe_ix ix_list (pv 3) (pv 2) (fun _ _ => rfl)) (pv 4) set_list))
      (pss_one (ps_asg (pv 6) (pg_sub (pe_ix ix_list (pv 3) (pv 4) (fun _ _ => rfl)) (pv 2) set_list))))))
    (pss_one (ps_ret (pv 3))))), ?_⟩
  -- drives = [[NO_DRIVE] * places for place in range(places)]
  refine ⟨_, rfl, ((n : Nat) : Int), rfl, (small62 (by omega)).1, (small62 (by omega)).2, fun d hd => ?_⟩
  refine lc_range (lo := 0) (n := n) (fun i H' => ∃ rs : List Addr, rs.length = i ∧ rs.Nodup ∧ d ∉ rs ∧ Same H H' ∧ (∀ r ∈ rs, H r = none) ∧ H' d = some (.lst (rs.map V.ref)) ∧ ∀ r ∈ rs, H' r = some (.lst (rowV n fun _ => NO)))
    ⟨[], rfl, .nil, by simp, same_new hd _, by simp, upd_same, by simp⟩ ?_ ?_
  · rintro i H1 hi ⟨rs, e1, e2, e3, e4, e5, e6, e7⟩
    refine ⟨rfl, (by show 1 ≤ sizeLine; decide), fun p hp => ?_⟩
    refine ⟨_, rfl, p, ((n : Nat) : Int), _, rfl, rfl, upd_same, by omega, by omega, ?_, fun p2 hp2 => ?_⟩
    · show 1 * n ≤ sizeLine
      exact line1000 (by omega)
    have np : p ≠ d := (ne_of_none e6 hp).symm
    have np2 : p2 ≠ p := fun z => by rw [z, upd_same] at hp2; cases hp2
    have hp2' : H1 p2 = none := by rwa [upd_ne np2] at hp2
    have nd2 : p2 ≠ d := (ne_of_none e6 hp2').symm
    have new : ∀ r ∈ rs, r ≠ p ∧ r ≠ p2 := fun r hr => ⟨ne_of_none (e7 r hr) hp, ne_of_none (e7 r hr) hp2'⟩
    refine ⟨rs.map V.ref, ?_, ?_, rs ++ [p2], ?_, ?_, ?_, ?_, ?_, ?_, ?_⟩
    · rw [upd_ne nd2.symm, upd_ne np.symm]; exact e6
    · rw [List.length_map]; exact small1000 (by omega)
    · rw [List.length_append, e1]; rfl
    · refine List.nodup_append.mpr ⟨e2, by simp, fun a ha b hb => ?_⟩
      rw [List.mem_singleton.mp hb]
      exact (new a ha).2
    · intro z
      rcases List.mem_append.mp z with z | z
      · exact e3 z
      · exact nd2 (List.mem_singleton.mp z).symm
    · refine same_over (same_over (same_over e4 (e4.free hp) _) (e4.free hp2') _) ?_ _
      exact hd
    · intro r hr
      rcases List.mem_append.mp hr with hr | hr
      · exact e5 r hr
      · rw [List.mem_singleton.mp hr]; exact e4.free hp2'
    · rw [upd_same, List.map_append]; rfl
    · intro r hr
      rcases List.mem_append.mp hr with hr | hr
      · rw [upd_ne (fun z => e3 (by rw [← z]; exact hr)), upd_ne (new r hr).2, upd_ne (new r hr).1]
        exact e7 r hr
      · rw [List.mem_singleton.mp hr, upd_ne nd2, upd_same, rowV_same]
        refine congrArg (fun z => some (HO.lst z)) ?_
        show (List.replicate n [vN NO]).flatten = _
        rw [List.flatten_replicate_singleton]
  rintro H1 ⟨rs, e1, e2, e3, e4, e5, e6, e7⟩
  have own : MatOwn H H1 d rs n fun _ _ => NO := ⟨⟨e6, e1, fun i r e => e7 r (List.mem_of_getElem? e)⟩, e4, e2, e3, hd, e5⟩
  -- for place in range(places): drives[place][place] = 0
  refine ⟨_, rfl, ((n : Nat) : Int), rfl, (small62 (by omega)).1, (small62 (by omega)).2, ?_⟩
  refine for_range (lo := 0) (n := n) (fun i σ H' => ∃ v : Option V, σ = [some (vN n), some (.ref rd), v, some (.ref d), none, none, none] ∧ MatOwn H H' d rs n fun a b => if a = b ∧ a < i then 0 else NO)
    ⟨none, rfl, own.ext fun a b _ _ => by rw [if_neg (by omega)]⟩ ?_ ?_
  · rintro i σ H2 hi ⟨v, rfl, M⟩
    have ei : (0 : Int) + ((i : Nat) : Int) = ((i : Nat) : Int) := by omega
    rw [ei]
    obtain ⟨r, hr, hr2, hr3⟩ := M.row hi
    refine ⟨_, rfl, _, rfl, d, _, _, _, rfl, rfl, .of M.mat.at_, atI_nat hr2, _, rfl, r, _, _, i, rfl, rfl, hr3, ixN_nat (by rw [rowV_length]; exact hi), ?_⟩
    refine ⟨_, rfl, (M.put (v := 0) hr).ext fun a b ha hb => ?_⟩
    by_cases c : a = i ∧ b = i
    · rw [if_pos c, if_pos (by omega)]
    · rw [if_neg c]
      by_cases c2 : a = b ∧ a < i
      · rw [if_pos c2, if_pos (by omega)]
      · rw [if_neg c2, if_neg (by omega)]
  rintro σ H2 ⟨v, rfl, M⟩
  -- for place, other, minutes in roads
  refine ⟨_, rfl, rd, rfl, ⟨_, .of (M.same _ _ hrd)⟩, ?_⟩
  have start : IsStraight n [] fun a b => if a = b ∧ a < n then 0 else NO := IsStraight.none fun a b ha hb => by
    by_cases c : a = b
    · rw [if_pos c, if_pos ⟨c, ha⟩]
    · rw [if_neg c, if_neg (fun z => c z.1)]
  refine for_list (K := K) (a := rd) (xs := ts.map V.ref) (fun i σ H' => ∃ (v2 v4 v5 v6 : Option V) (D : Nat → Nat → Nat), σ = [some (vN n), some (.ref rd), v2, some (.ref d), v4, v5, v6] ∧ MatOwn H H' d rs n D ∧ IsStraight n (roads.take i) D)
    ⟨v, none, none, none, _, rfl, M, start⟩ (fun i σ H' _ ⟨_, _, _, _, _, _, M, _⟩ => .of (M.same _ _ hrd)) ?_ ?_
  · rintro i y σ H3 hi ⟨v2, v4, v5, v6, D, rfl, M, S⟩
    obtain ⟨t, ht, rfl⟩ := refs_got hi
    obtain ⟨⟨p, o, m⟩, hro1, hro2⟩ := paired_get hro ht
    obtain ⟨hp, ho, hne, hm1, hm2⟩ := hok p o m (List.mem_of_getElem? hro1)
    obtain ⟨rp, ep, ep2, ep3⟩ := M.row hp
    refine ⟨t, _, rfl, .inl (.inl (M.same _ _ hro2)), rfl, _, _, rfl, _, _, rfl, _, _, rfl, rfl, ?_⟩
    -- shorter = min(minutes, drives[place][other])
    refine ⟨_, rfl, _, rfl, _, rfl, d, _, _, _, rfl, rfl, .of M.mat.at_, atI_nat ep2, _, rfl, rp, _, _, _, rfl, rfl, .of ep3, atI_nat (rowV_get _ ho), _, _, rfl, ?_⟩
    have sh : (if ((D p o : Nat) : Int) < ((m : Nat) : Int) then ((D p o : Nat) : Int) else ((m : Nat) : Int)) = ((min m (D p o) : Nat) : Int) := by
      split <;> omega
    rw [sh]
    -- drives[place][other] = shorter
    refine ⟨_, rfl, _, rfl, _, rfl, d, _, _, _, rfl, rfl, .of M.mat.at_, atI_nat ep2, _, rfl, rp, _, _, o, rfl, rfl, ep3, ixN_nat (by rw [rowV_length]; exact ho), ?_⟩
    have M2 := M.put (v := min m (D p o)) (q := o) ep
    obtain ⟨ro, eo, eo2, eo3⟩ := M2.row ho
    -- drives[other][place] = shorter
    refine ⟨_, rfl, _, rfl, _, rfl, d, _, _, _, rfl, rfl, .of M2.mat.at_, atI_nat eo2, _, rfl, ro, _, _, p, rfl, rfl, eo3, ixN_nat (by rw [rowV_length]; exact hp), ?_⟩
    have M3 := M2.put (v := min m (D p o)) (q := p) eo
    refine ⟨_, _, _, _, _, rfl, M3, ?_⟩
    rw [take_more hro1]
    refine S.more hp ho hne (fun a b ha hb => ?_) fun u x z e => hok u x z (List.mem_of_mem_take e)
    by_cases c : a = o ∧ b = p
    · rw [if_pos c, if_pos (.inr c)]
    · rw [if_neg c]
      by_cases c2 : a = p ∧ b = o
      · rw [if_pos c2, if_pos (.inl c2)]
      · rw [if_neg c2, if_neg (by omega)]
  rintro σ H3 ⟨v2, v4, v5, v6, D, rfl, M, S⟩
  rw [List.length_map, paired_len hro, List.take_length] at S
  exact ⟨_, rfl, q H3 d rs D M S⟩
end
end Rb

namespace Rb
open PySem PySem.Spec PyProof.Rows L2
section
variable {P : Program} {w : World} {K : PySem.W.Frag} {mg : Str → Option Value} {base : Heap} {CW CC : Addr}
abbrev nShort : List Str := ["places", "roads", "drives", "via", "place", "other"]
theorem scShort : FnScope nShort ["places", "roads"] (defScope sShort) := ⟨rfl, rfl, rfl, by decide +kernel, rfl, by decide +kernel, by decide +kernel⟩
/-- the table behind some places (a below j) and, of place j, some others (b below k) -/
def part (D : Nat → Nat → Nat) (i j k : Nat) : Nat → Nat → Nat := fun a b => if a < j ∨ (a = j ∧ b < k) then min (D a b) (D a i + D i b) else D a b
theorem ok_short {f g : Addr} {fd gd : FuncData} (F : Fun K "shortest_drives" "shortest_drives" sShort f fd) (T : Txt K mg CW CC)
    (G : FnOk P w K mg base CX0 1 g gd ["places", "roads"] (spTable IsStraight)) (bG : Binds K gd ["places", "roads"] []) (kG : PySem.W.keepIn K (.ref g) = true) (mG : mg "straight_drives" = some (.ref g)) :
    FnOk P w K mg base CX0 2 f fd ["places", "roads"] (spTable IsDist) := by
  refine F.ok scShort (fun vs H Q E h => ?_) (fun cdv A outer s H vs Q E hr h => ?_)
  · obtain ⟨n, rd, ts, roads, rfl, _⟩ := h
    rfl
  obtain ⟨n, rd, ts, roads, rfl, hn, hrd, hro, hok, hlen, q⟩ := h
  have nd := scShort.nd
  refine ⟨_, pss_cons (ps_set (i := 2) nd rfl (Or.inl rfl) (pe_call G hr rfl mG kG bG .nil pass0 (pa_cons (pv 0) (pa_cons (pv 1) pa_nil))))
    (pss_cons (ps_for PassesOwn.never rfl (pi_range1 rfl T.range (pa_cons (pv 0) pa_nil)) (pg_name (i := 3) nd rfl (Or.inl rfl))
      (pss_one (ps_for PassesOwn.never rfl (pi_range1 rfl T.range (pa_cons (pv 0) pa_nil)) (pg_name (i := 4) nd rfl (Or.inl rfl))
        (pss_one (ps_for PassesOwn.never rfl (pi_range1 rfl T.range (pa_cons (pv 0) pa_nil)) (pg_name (i := 5) nd rfl (Or.inl rfl))
          (pss_one (ps_asg (pe_callB (call_min2 rfl) (by rfl) T.min (by decide +kernel) (pa_cons (pe_ix ix_list (pe_ix ix_list (pv 2) (pv 4) (fun _ _ => rfl)) (pv 5) (fun _ _ => rfl))
              (pa_cons (pe_op op_add (pe_ix ix_list (pe_ix ix_list (pv 2) (pv 4) (fun _ _ => rfl)) (pv 3) (fun _ _ => rfl)) (pe_ix ix_list (pe_ix ix_list (pv 2) (pv 3) (fun _ _ => rfl)) (pv 5) (fun _ _ => rfl))) pa_nil)))
            (pg_sub (pe_ix ix_list (pv 2) (pv 4) (fun _ _ => rfl)) (pv 5) set_list))))))))
    (pss_one (ps_ret (pv 2)))), ?_⟩
  -- drives = straight_drives(places, roads)
  refine ⟨_, rfl, _, rfl, n, rd, ts, roads, rfl, hn, hrd, hro, hok, hlen, fun H1 d rs D0 M0 S0 => ?_⟩
  have b1 := (small62 (n := n) (by omega)).1
  have b2 := (small62 (n := n) (by omega)).2
  -- for via
  refine ⟨_, rfl, ((n : Nat) : Int), rfl, b1, b2, ?_⟩
  refine for_range (lo := 0) (n := n) (fun i σ H' => ∃ (v3 v4 v5 : Option V) (D : Nat → Nat → Nat), σ = [some (vN n), some (.ref rd), some (.ref d), v3, v4, v5] ∧ MatOwn H H' d rs n D ∧ FwInv n roads i D)
    ⟨none, none, none, D0, rfl, M0, S0.fw hok⟩ ?_ ?_
  · rintro i σ H2 hi ⟨v3, v4, v5, D, rfl, M, W⟩
    have ei : (0 : Int) + ((i : Nat) : Int) = ((i : Nat) : Int) := by omega
    rw [ei]
    -- for place
    refine ⟨_, rfl, ((n : Nat) : Int), rfl, b1, b2, ?_⟩
    refine for_range (lo := 0) (n := n) (fun j σ H' => ∃ (v4 v5 : Option V), σ = [some (vN n), some (.ref rd), some (.ref d), some (vN i), v4, v5] ∧ MatOwn H H' d rs n (part D i j 0))
      ⟨v4, v5, rfl, M.ext fun a b _ _ => if_neg (by omega)⟩ ?_ ?_
    · rintro j σ H3 hj ⟨v4, v5, rfl, M⟩
      have ej : (0 : Int) + ((j : Nat) : Int) = ((j : Nat) : Int) := by omega
      rw [ej]
      -- for other
      refine ⟨_, rfl, ((n : Nat) : Int), rfl, b1, b2, ?_⟩
      refine for_range (lo := 0) (n := n) (fun k σ H' => ∃ (v5 : Option V), σ = [some (vN n), some (.ref rd), some (.ref d), some (vN i), some (vN j), v5] ∧ MatOwn H H' d rs n (part D i j k))
        ⟨v5, rfl, M⟩ ?_ ?_
      · rintro k σ H4 hk ⟨v5, rfl, M⟩
        have ek : (0 : Int) + ((k : Nat) : Int) = ((k : Nat) : Int) := by omega
        rw [ek]
        obtain ⟨rj, hj1, hj2, hj3⟩ := M.row hj
        obtain ⟨ri, hi1, hi2, hi3⟩ := M.row hi
        have z0 := W.self i hi
        have e1 : part D i j k j k = D j k := if_neg (by omega)
        have e2 : part D i j k j i = D j i := by unfold part; split <;> omega
        have e3 : part D i j k i k = D i k := by unfold part; split <;> omega
        refine ⟨_, rfl, _, rfl, d, _, _, _, rfl, rfl, .of M.mat.at_, atI_nat hj2, _, rfl, rj, _, _, _, rfl, rfl, .of hj3, atI_nat (rowV_get _ hk), ?_⟩
        refine ⟨_, rfl, _, rfl, d, _, _, _, rfl, rfl, .of M.mat.at_, atI_nat hj2, _, rfl, rj, _, _, _, rfl, rfl, .of hj3, atI_nat (rowV_get _ hi), ?_⟩
        refine ⟨_, rfl, _, rfl, d, _, _, _, rfl, rfl, .of M.mat.at_, atI_nat hi2, _, rfl, ri, _, _, _, rfl, rfl, .of hi3, atI_nat (rowV_get _ hk), _, _, rfl, rfl, ?_⟩
        rw [e1, e2, e3]
        have sh : (if ((D j i : Nat) : Int) + ((D i k : Nat) : Int) < ((D j k : Nat) : Int) then ((D j i : Nat) : Int) + ((D i k : Nat) : Int) else ((D j k : Nat) : Int)) = ((min (D j k) (D j i + D i k) : Nat) : Int) := by
          split <;> omega
        refine ⟨_, _, rfl, ?_⟩
        rw [sh]
        refine ⟨_, rfl, _, rfl, d, _, _, _, rfl, rfl, .of M.mat.at_, atI_nat hj2, _, rfl, rj, _, _, k, rfl, rfl, hj3, ixN_nat (by rw [rowV_length]; exact hk), ?_⟩
        refine ⟨_, rfl, (M.put (v := min (D j k) (D j i + D i k)) hj1).ext fun a b ha hb => ?_⟩
        by_cases c : a = j ∧ b = k
        · rw [if_pos c, c.1, c.2]
          exact if_pos (by omega)
        · rw [if_neg c]
          unfold part
          by_cases c2 : a < j ∨ (a = j ∧ b < k)
          · rw [if_pos c2, if_pos (by omega)]
          · rw [if_neg c2, if_neg (by omega)]
      · rintro σ H4 ⟨v5, rfl, M⟩
        refine ⟨_, _, rfl, M.ext fun a b ha hb => ?_⟩
        unfold part
        by_cases c2 : a < j ∨ (a = j ∧ b < n)
        · rw [if_pos c2, if_pos (by omega)]
        · rw [if_neg c2, if_neg (by omega)]
    · rintro σ H3 ⟨v4, v5, rfl, M⟩
      exact ⟨_, _, _, _, rfl, M, W.next hok hi fun a b ha hb => if_pos (by omega)⟩
  · rintro σ H2 ⟨v3, v4, v5, D, rfl, M, W⟩
    exact ⟨_, rfl, q H2 d rs D M (W.done hn)⟩
end
end Rb

namespace Rb
open PySem PySem.Spec PyProof.Rows L2
/-! ### list(d.values()): a rule that the layer lacks. It is made of the library's own rules of d.values() and of list() over a view; here they are put together -/
def tListVals (td : TE) : TE := fun σ H Q => td σ H fun x H1 => ∃ (d : Addr) (kvs : List (Key × V)), x = .ref d ∧ H1 d = some (.dK kvs) ∧ ∀ q, H1 q = none → Q (.ref q) (upd H1 q (.lst (kvs.map (·.2))))
/-- the view of the values of the dict at d -/
abbrev valuesOf (d : Addr) : Obj := { cls := .type "dict_values", data := .fields #[.ref d] }
/-- values in their order, told by their places -/
theorem vals_by_place {kvs : List (Key × V)} {vs : List (Key × Value)} {us : List Value} (kv : KV kvs vs) (hl : us.length = vs.length) (h : ∀ (j : Nat) (u : Value), us[j]? = some u → ∃ k, vs[j]? = some (k, u)) : Vals (kvs.map (·.2)) us := by
  refine vals_of_at ((List.length_map _).trans ((Paired.length kv).trans hl.symm)) fun j x u hx hu => ?_
  obtain ⟨k, hk⟩ := h j u hu
  obtain ⟨y, hy, _, r⟩ := paired_got kv hk
  rw [List.getElem?_map, hy] at hx
  exact (Option.some.inj hx) ▸ r
/-- list() over such a view -/
theorem list_of_values {X : Cx} {pins : List (Addr × Obj)} {σ : L2.St} {H : Hp} {s : Shared} {d : Addr} {kvs : List (Key × V)} {Q : VK} (hc : X.calm = true) (I : Inv X pins σ H s) (hd : H d = some (.dK kvs)) (q : ∀ p, H p = none → Q (.ref p) (upd H p (.lst (kvs.map (·.2))))) :
    wpAny (model X.prog X.w) X.A (call (.type "list") [.ref s.heap.objs.size]) (EP X pins σ Q) X.xe { s with heap := s.heap.push (valuesOf d) } := by
  obtain ⟨size, _, vs, kv, dict⟩ := I.hok d _ hd
  obtain ⟨ep, placed⟩ := dict.dictAt
  have J : Inv X pins σ H { s with heap := s.heap.push (valuesOf d) } := I.kept (t' := s.toks) fun _ _ => Heap.get?_push_of_some _
  have two := Paired.length kv
  refine W.kdl_call (W.kdl_values (knd := mixKind X.prog X.w) (d := d) (kvs := vs) (ep := ep)) (I.ok.hd hc) ⟨⟨_, Heap.get?_push_size _ rfl, rfl, rfl⟩, placed.push _⟩ (two ▸ size) fun _ _ items cap stays here those => ?_
  have made : Vals (kvs.map (·.2)) items.toList := vals_by_place kv ((Array.length_toList).trans those.1) fun j u hu => those.2 j u ((Array.getElem?_toList).symm.trans hu)
  exact ⟨.ref _, _, J.laid stays (Nat.le_refl _) (o := .lst (kvs.map (·.2))) ⟨(List.length_map _).symm ▸ size, items.toList, cap, made, (Array.toArray_toList).symm ▸ here⟩, rfl, q _ (J.hok.fresh (Nat.le_refl _))⟩
theorem pe_listVals {X : Cx} {e : Expr} {te : TE} {p apos cpos pos : Pos} (hc : X.calm = true) (he : PE X e te) (hg : Gl X "list") (hm : X.mg "list" = none) (hv : bootBuiltins "list" = some (.type "list"))
    (h1 : attributeBase e "values" X.env (eval e X.env) = eval e X.env := by rfl) (h2 : (apos.endLine == cpos.line) = true := by rfl)
    (h3 : starEach [.Call (.Attribute e "values" apos) [] [] cpos] X.env = (false, eval (.Call (.Attribute e "values" apos) [] [] cpos) X.env) :: starEach [] X.env := by rfl) :
    PE X (.Call (.Name "list" p) [.Call (.Attribute e "values" apos) [] [] cpos] [] pos) (tListVals te) := by
  refine ⟨fun pins s σ H Q I told => wpAny_Call_Name_kw (ld_blt I hg hm hv (PyProof.Rows.callWith_type1 ?_ h3 rfl))⟩
  rw [h3]
  show wpAny _ _ (spliced (_ :: backTo pos (starEach [] X.env))) _ _ s
  refine Calls.spliced_cons (wpAny_Call_method (T := "dict") (id := "dict.values") h1 rfl h2 F.plainAttrs_dict F.slot_dict_values F.type_dict_values (thn (he.run pins s σ H _ I told) fun u s1 ⟨x, H1, I1, rx, d, kvs, ex, hd, q⟩ => ?_))
  subst ex
  cases rx
  obtain ⟨_, other, vs, _, dict⟩ := I1.hok d _ hd
  exact ⟨dict.typeIs, dict.mapOf.noDict, method_meetsIn F.slot_dict_values F.entry_dict_values rfl (PySem.evalArgs_none ⟨rfl, dict.typeIs, F.args_dict_values_1 _, _, meets_dict_values (mixKind X.prog X.w) d other, ⟨vs, dict⟩, Calls.spliced_nil (list_of_values hc I1 hd q)⟩)⟩
end Rb

namespace Rb
open PySem PySem.Spec PyProof.Rows L2
theorem erase_snoc {l : List Nat} {a : Nat} : (l ++ [a]).eraseDups = if a ∈ l then l.eraseDups else l.eraseDups ++ [a] := by
  rw [List.eraseDups_append]
  by_cases h : a ∈ l
  · rw [if_pos h]
    have : [a].removeAll l = [] := by simp [List.removeAll, h]
    rw [this]; simp
  · rw [if_neg h]
    have : [a].removeAll l = [a] := by simp [List.removeAll, h]
    rw [this]; rfl
/-- the dict: for each part the list of its places -/
def mkD : List Nat → List Addr → List (Key × V)
  | k :: ks, u :: us => (Sum.inl ((k : Nat) : Int), .ref u) :: mkD ks us
  | _, _ => []
theorem mkD_snd : ∀ {ks : List Nat} {us : List Addr}, us.length = ks.length → (mkD ks us).map (·.2) = us.map V.ref
  | [], [], _ => rfl
  | k :: ks, u :: us, h => congrArg (V.ref u :: ·) (mkD_snd (Nat.succ.inj h))
theorem mkD_len : ∀ {ks : List Nat} {us : List Addr}, us.length = ks.length → (mkD ks us).length = ks.length
  | [], [], _ => rfl
  | k :: ks, u :: us, h => congrArg (· + 1) (mkD_len (Nat.succ.inj h))
theorem mkD_snoc {k : Nat} {u : Addr} : ∀ {ks : List Nat} {us : List Addr}, us.length = ks.length → mkD (ks ++ [k]) (us ++ [u]) = mkD ks us ++ [(Sum.inl ((k : Nat) : Int), .ref u)]
  | [], [], _ => rfl
  | _ :: ks, _ :: us, h => congrArg (_ :: ·) (mkD_snoc (Nat.succ.inj h))
theorem key_nat {a b : Nat} : ((Sum.inl ((a : Nat) : Int) : Key) = Sum.inl ((b : Nat) : Int)) ↔ a = b := by
  constructor
  · intro h
    have := Sum.inl.inj h
    omega
  · rintro rfl; rfl
theorem mkD_in {k : Nat} : ∀ {ks : List Nat} {us : List Addr}, us.length = ks.length → k ∈ ks → ∃ (j : Nat) (u : Addr), us[j]? = some u ∧ ks[j]? = some k ∧ valV (mkD ks us) (Sum.inl ((k : Nat) : Int)) = some (.ref u)
  | [], [], _, h => by cases h
  | x :: ks, u :: us, e, h => by
    by_cases c : x = k
    · subst c
      refine ⟨0, u, rfl, rfl, ?_⟩
      unfold valV mkD
      rw [List.find?_cons_of_pos (by simp)]; rfl
    · have h' : k ∈ ks := by
        rcases List.mem_cons.mp h with z | z
        · exact absurd z.symm c
        · exact z
      obtain ⟨j, v, e1, e2, e3⟩ := mkD_in (Nat.succ.inj e) h'
      refine ⟨j + 1, v, e1, e2, ?_⟩
      unfold valV mkD
      rw [List.find?_cons_of_neg (by simpa using fun z => c (by omega))]
      exact e3
theorem mkD_out {k : Nat} {z : V} : ∀ {ks : List Nat} {us : List Addr}, us.length = ks.length → k ∉ ks → valV (mkD ks us) (Sum.inl ((k : Nat) : Int)) = none ∧ (mkD ks us).any (fun kv => decide (kv.1 = Sum.inl ((k : Nat) : Int))) = false
  | [], [], _, _ => ⟨rfl, rfl⟩
  | x :: ks, u :: us, e, h => by
    have c : ¬ x = k := fun z => h (by rw [z]; exact List.mem_cons_self)
    obtain ⟨h1, h2⟩ := mkD_out (z := z) (Nat.succ.inj e) fun z => h (List.mem_cons_of_mem x z)
    have d : decide ((Sum.inl ((x : Nat) : Int) : Key) = Sum.inl ((k : Nat) : Int)) = false := decide_eq_false fun z => c (key_nat.mp z)
    refine ⟨?_, ?_⟩
    · unfold valV mkD
      rw [List.find?_cons_of_neg (by rw [d]; exact Bool.false_ne_true)]
      exact h1
    · unfold mkD
      rw [List.any_cons, d, h2]; rfl
theorem mkD_put {k : Nat} {u : Addr} {ks : List Nat} {us : List Addr} (e : us.length = ks.length) (h : k ∉ ks) : putK (mkD ks us) (Sum.inl ((k : Nat) : Int)) (.ref u) = mkD (ks ++ [k]) (us ++ [u]) := by
  rw [mkD_snoc e]
  unfold putK
  rw [(mkD_out (z := .non) e h).2, if_neg Bool.false_ne_true]
theorem natsV_snoc (l : List Nat) (x : Nat) : natsV (l ++ [x]) = natsV l ++ [vN x] := by unfold natsV; rw [List.map_append]; rfl
/-- the places by their parts, as far as pre goes -/
structure Parts (H H' : Hp) (b : Addr) (ks : List Nat) (us : List Addr) (part : Nat → Nat) (pre : List Nat) : Prop where
  keys : (pre.map part).eraseDups = ks
  nd : ks.Nodup
  len : us.length = ks.length
  same : Same H H'
  newb : H b = none
  at_ : H' b = some (.dK (mkD ks us))
  newu : ∀ u ∈ us, H u = none
  ndu : us.Nodup
  lists : ∀ (j : Nat) (u : Addr) (k : Nat), us[j]? = some u → ks[j]? = some k → H' u = some (.lst (natsV (pre.filter fun v => part v == k)))
theorem Parts.old {H H' : Hp} {b : Addr} {ks : List Nat} {us : List Addr} {part : Nat → Nat} {pre : List Nat} (h : Parts H H' b ks us part pre) {v j : Nat} {u p : Addr} {o : HO} (hp : H' p = none) (hu : us[j]? = some u) (hk : ks[j]? = some (part v)) :
    Parts H (upd (upd H' p o) u (.lst (natsV (pre.filter fun x => part x == part v) ++ [vN v]))) b ks us part (pre ++ [v]) where
  keys := by
    rw [List.map_append]
    show (pre.map part ++ [part v]).eraseDups = ks
    rw [erase_snoc, if_pos, h.keys]
    rw [← List.mem_eraseDups, h.keys]
    exact List.mem_of_getElem? hk
  nd := h.nd
  len := h.len
  same := same_over (same_over h.same (h.same.free hp) _) (h.newu u (List.mem_of_getElem? hu)) _
  newb := h.newb
  at_ := by
    have e := h.lists j u _ hu hk
    rw [upd_ne (ne_of h.at_ e (by intro z; cases z)), upd_ne (ne_of_none h.at_ hp)]
    exact h.at_
  newu := h.newu
  ndu := h.ndu
  lists i w k hw hk' := by
    have e := h.lists i w k hw hk'
    by_cases c : w = u
    · subst c
      obtain rfl := nd_ix h.ndu hw hu
      rw [hk] at hk'
      obtain rfl := Option.some.inj hk'
      rw [upd_same, List.filter_append, ← natsV_snoc]
      have : [v].filter (fun x => part x == part v) = [v] := by simp
      rw [this]
    · rw [upd_ne c, upd_ne (ne_of_none e hp), e, List.filter_append]
      have : [v].filter (fun x => part x == k) = [] := by
        rw [List.filter_eq_nil_iff]
        intro x hx z
        rw [List.mem_singleton.mp hx] at z
        have ek := eq_of_beq z
        subst ek
        exact c (by
          have := nd_ix h.nd hk' hk
          subst this
          rw [hw] at hu
          exact Option.some.inj hu)
      rw [this, List.append_nil]
theorem Parts.new {H H' : Hp} {b : Addr} {ks : List Nat} {us : List Addr} {part : Nat → Nat} {pre : List Nat} (h : Parts H H' b ks us part pre) {v : Nat} {p : Addr} (hp : H' p = none) (hk : part v ∉ ks) {o : HO} :
    Parts H (upd (upd (upd H' p o) b (.dK (mkD (ks ++ [part v]) (us ++ [p])))) p (.lst ([] ++ [vN v]))) b (ks ++ [part v]) (us ++ [p]) part (pre ++ [v]) where
  keys := by
    rw [List.map_append]
    show (pre.map part ++ [part v]).eraseDups = _
    rw [erase_snoc, if_neg, h.keys]
    rw [← List.mem_eraseDups, h.keys]
    exact hk
  nd := List.nodup_append.mpr ⟨h.nd, by simp, fun a ha c hc => by rw [List.mem_singleton.mp hc]; exact fun z => hk (by rw [← z]; exact ha)⟩
  len := by rw [List.length_append, List.length_append, h.len]; rfl
  same := same_over (same_over (same_over h.same (h.same.free hp) _) h.newb _) (h.same.free hp) _
  newb := h.newb
  at_ := by rw [upd_ne (ne_of_none h.at_ hp), upd_same]
  newu u hu := by
    rcases List.mem_append.mp hu with hu | hu
    · exact h.newu u hu
    · rw [List.mem_singleton.mp hu]; exact h.same.free hp
  ndu := List.nodup_append.mpr ⟨h.ndu, by simp, fun a ha c hc => by
    rw [List.mem_singleton.mp hc]
    intro z
    obtain ⟨j, hj⟩ := List.mem_iff_getElem?.mp ha
    have l : j < ks.length := by rw [← h.len]; exact (List.getElem?_eq_some_iff.mp hj).1
    have e := h.lists j a ks[j] hj (List.getElem?_eq_getElem l)
    rw [z, hp] at e
    cases e⟩
  lists i w k hw hk' := by
    have filt : (pre ++ [v]).filter (fun x => part x == part v) = [v] := by
      rw [List.filter_append, List.filter_eq_nil_iff.mpr]
      · simp
      · intro x hx z
        refine hk ?_
        rw [← h.keys, List.mem_eraseDups]
        exact List.mem_map.mpr ⟨x, hx, eq_of_beq z⟩
    by_cases l : i < us.length
    · rw [List.getElem?_append_left l] at hw
      rw [List.getElem?_append_left (by rw [← h.len]; exact l)] at hk'
      have e := h.lists i w k hw hk'
      rw [upd_ne (ne_of_none e hp), upd_ne (ne_of e h.at_ (by intro z; cases z)), upd_ne (ne_of_none e hp), e, List.filter_append]
      have : [v].filter (fun x => part x == k) = [] := by
        rw [List.filter_eq_nil_iff]
        intro x hx z
        rw [List.mem_singleton.mp hx] at z
        have ek := eq_of_beq z
        subst ek
        exact hk (List.mem_of_getElem? hk')
      rw [this, List.append_nil]
    · have l1 := (List.getElem?_eq_some_iff.mp hw).1
      rw [List.length_append, List.length_singleton] at l1
      obtain rfl : i = us.length := by omega
      rw [List.getElem?_append_right (Nat.le_refl _)] at hw
      have hl := h.len
      rw [List.getElem?_append_right (by omega), hl] at hk'
      simp at hw hk'
      subst hw
      subst hk'
      rw [upd_same, filt]; rfl
def spParted : Sp := fun vs H Q _ => ∃ (lp pa : Addr) (S parts : List Nat), vs = [.ref lp, .ref pa] ∧ H lp = some (.lst (natsV S)) ∧ H pa = some (.lst (natsV parts)) ∧ (∀ v ∈ S, v < parts.length) ∧ S.length ≤ 6 ∧
  ∀ (H' : Hp) (r : Addr) (us : List Addr), Same H H' → H' r = some (.lst (us.map V.ref)) → Paired (fun u g => H' u = some (.lst (natsV g))) us (Si94.split parts S) → Q (.ref r) H'
section
variable {P : Program} {w : World} {K : PySem.W.Frag} {mg : Str → Option Value} {base : Heap} {CW CC : Addr}
abbrev nParted : List Str := ["landing_places", "parts", "by_part", "place"]
theorem scParted : FnScope nParted ["landing_places", "parts"] (defScope sParted) := ⟨rfl, rfl, rfl, by decide +kernel, rfl, by decide +kernel, by decide +kernel⟩
theorem paired_map_of {F : Addr → List Nat → Prop} {g : Nat → List Nat} : ∀ {us : List Addr} {ks : List Nat}, us.length = ks.length → (∀ (j : Nat) (u : Addr) (k : Nat), us[j]? = some u → ks[j]? = some k → F u (g k)) → Paired F us (ks.map g)
  | [], [], _, _ => .nil
  | u :: us, k :: ks, e, h => .cons (h 0 u k rfl rfl) (paired_map_of (Nat.succ.inj e) fun j v x h1 h2 => h (j + 1) v x h1 h2)
theorem ok_parted {f : Addr} {fd : FuncData} (F : Fun K "parted" "parted" sParted f fd) (T : Txt K mg CW CC) : FnOk P w K mg base CX0 1 f fd ["landing_places", "parts"] spParted := by
  refine F.ok scParted (fun vs H Q E h => ?_) (fun cdv A outer s H vs Q E hr h => ?_)
  · obtain ⟨lp, pa, S, parts, rfl, _⟩ := h
    rfl
  obtain ⟨lp, pa, S, parts, rfl, hS, hpa, hin, hl6, q⟩ := h
  have nd := scParted.nd
  refine ⟨_, pss_cons (ps_set (i := 2) nd rfl (Or.inl rfl) pe_dnewK)
    (pss_cons (ps_for PassesOwn.never rfl (pi_list (pv 0)) (pg_name (i := 3) nd rfl (Or.inl rfl))
      (pss_one (ps_expr (pe_bm PySem.F.plainAttrs_list PySem.F.slot_list_append PySem.F.type_list_append mt_append
        (pe_dsetd (pv 2) (pe_ix ix_list (pv 1) (pv 3) (fun _ _ => rfl)) (pe_lst pa_nil) ⟨rfl, rfl, rfl, rfl⟩) (pa_cons (pv 3) pa_nil)))))
    (pss_one (ps_ret (pe_listVals rfl (pv 2) rfl T.list (by decide +kernel))))), ?_⟩
  intro b hb
  refine ⟨_, rfl, lp, rfl, ⟨_, .of (same_new hb _ _ _ hS)⟩, ?_⟩
  have start : Parts H (upd H b (.dK [])) b [] [] (fun v => parts.getD v 0) [] := ⟨rfl, .nil, rfl, same_new hb _, hb, upd_same, by simp, .nil, by simp⟩
  refine for_list (K := K) (a := lp) (xs := natsV S) (fun i σ H' => ∃ (v3 : Option V) (ks : List Nat) (us : List Addr), σ = [some (.ref lp), some (.ref pa), some (.ref b), v3] ∧ Parts H H' b ks us (fun v => parts.getD v 0) (S.take i))
    ⟨none, [], [], rfl, start⟩ (fun i σ H' _ ⟨_, _, _, _, M⟩ => .of (M.same _ _ hS)) ?_ ?_
  · rintro i y σ H1 hi ⟨v3, ks, us, rfl, M⟩
    obtain ⟨v, hv, rfl⟩ := natsV_got hi
    have hvl := hin v (List.mem_of_getElem? hv)
    have hpv : parts[v]? = some (parts.getD v 0) := by
      rw [List.getElem?_eq_getElem hvl, List.getD_eq_getElem?_getD, List.getElem?_eq_getElem hvl]; rfl
    have kl : (mkD ks us).length < sizeLine := by
      rw [mkD_len M.len, ← M.keys]
      refine small1000 ?_
      have h1 : ∀ l : List Nat, l.eraseDups.length ≤ l.length := by
        intro l
        induction h : l.length using Nat.strongRecOn generalizing l with
        | ind n ih =>
          cases l with
          | nil => simp
          | cons a l =>
            rw [List.eraseDups_cons, List.length_cons]
            simp only [List.length_cons] at h
            have f := List.length_filter_le (fun b => !b == a) l
            have := ih (List.filter (fun b => !b == a) l).length (by omega) _ rfl
            omega
      have := h1 ((S.take i).map fun v => parts.getD v 0)
      rw [List.length_map, List.length_take] at this
      omega
    refine ⟨_, rfl, b, rfl, .inl ⟨_, .of M.at_⟩, _, rfl, _, rfl, pa, _, _, _, rfl, rfl, .of (M.same _ _ hpa), atI_nat (natsV_get hpv), (by show 0 ≤ sizeLine; decide), fun p hp => ?_⟩
    have bp : b ≠ p := ne_of_none M.at_ hp
    have tk := take_more hv
    refine ⟨mkD ks us, Sum.inl ((parts.getD v 0 : Nat) : Int), by rw [upd_ne bp]; exact M.at_, rfl, kl, fun x hx => ?_, fun hn => ?_⟩
    · have hk : parts.getD v 0 ∈ ks := Decidable.byContradiction fun z => by
        rw [(mkD_out (z := .non) M.len z).1] at hx; cases hx
      obtain ⟨j, u, e1, e2, e3⟩ := mkD_in M.len hk
      rw [e3] at hx
      obtain rfl := Option.some.inj hx
      have eu := M.lists j u _ e1 e2
      have up : u ≠ p := ne_of_none eu hp
      have eu' : (upd H1 p (.lst [])) u = some (.lst (natsV ((S.take i).filter fun x => parts.getD x 0 == parts.getD v 0))) := by rw [upd_ne up]; exact eu
      refine ⟨.inl ⟨rfl, _, .of eu'⟩, _, rfl, u, _, _, rfl, rfl, eu', ?_, ?_⟩
      · rw [natsV_length]
        refine small1000 ?_
        have := List.length_filter_le (fun x => parts.getD x 0 == parts.getD v 0) (S.take i)
        rw [List.length_take] at this
        omega
      · refine ⟨_, ks, us, rfl, ?_⟩
        rw [tk]
        exact M.old hp e1 e2
    · have hk : parts.getD v 0 ∉ ks := fun z => by
        obtain ⟨_, _, _, _, e3⟩ := mkD_in M.len z
        rw [e3] at hn; cases hn
      rw [mkD_put M.len hk]
      have ep : (upd (upd H1 p (.lst [])) b (.dK (mkD (ks ++ [parts.getD v 0]) (us ++ [p])))) p = some (.lst []) := by rw [upd_ne bp.symm, upd_same]
      refine ⟨.inl ⟨rfl, _, .of ep⟩, _, rfl, p, _, _, rfl, rfl, ep, (by show 0 < sizeLine; decide), ?_⟩
      refine ⟨_, ks ++ [parts.getD v 0], us ++ [p], rfl, ?_⟩
      rw [tk]
      exact M.new hp hk
  · rintro σ H1 ⟨v3, ks, us, rfl, M⟩
    rw [natsV_length, List.take_length] at M
    refine ⟨_, rfl, b, _, rfl, M.at_, fun r hr' => ?_⟩
    rw [mkD_snd M.len]
    refine q _ r us (M.same.trans (same_new hr' _)) upd_same ?_
    unfold Si94.split
    rw [M.keys]
    refine paired_map_of M.len fun j u k h1 h2 => ?_
    have e := M.lists j u k h1 h2
    rw [upd_ne (ne_of_none e hr')]
    exact e
end
end Rb

namespace Rb
open PySem PySem.Spec PyProof.Rows L2
open Si94 (Chase News)
theorem lk_here {k : Str} {v : V} {r : List (Str × V)} : List.lookup k ((k, v) :: r) = some v := by
  have e : (k == k) = true := beq_self_eq_true k
  simp only [List.lookup, e]
theorem lk_past {k g : Str} {v : V} {r : List (Str × V)} (h : (k == g) = false) : List.lookup k ((g, v) :: r) = List.lookup k r := by
  simp only [List.lookup, h]
theorem put_here {f : Str} {v x : V} {r : List (Str × V)} : putF f v ((f, x) :: r) = (f, v) :: r := if_pos rfl
theorem put_past {f g : Str} {v x : V} {r : List (Str × V)} (h : ¬ g = f) : putF f v ((g, x) :: r) = (g, x) :: putF f v r := if_neg h
/-! ### the object of the ways of driving -/
def wF (d : Addr) (L : Nat) (nw : Addr) : List (Str × V) := [("drives", .ref d), ("landing", vN L), ("news_told", .ref nw)]
theorem wF_drives (d : Addr) (L : Nat) (nw : Addr) : (wF d L nw).lookup ("drives" : Str) = some (.ref d) := lk_here
theorem wF_landing (d : Addr) (L : Nat) (nw : Addr) : (wF d L nw).lookup ("landing" : Str) = some (vN L) := (lk_past (by decide +kernel)).trans lk_here
theorem wF_news (d : Addr) (L : Nat) (nw : Addr) : (wF d L nw).lookup ("news_told" : Str) = some (.ref nw) := (lk_past (by decide +kernel)).trans ((lk_past (by decide +kernel)).trans lk_here)
theorem wF_none {d : Addr} {L : Nat} {nw : Addr} {m : Str} (h1 : (m == ("drives" : Str)) = false) (h2 : (m == ("landing" : Str)) = false) (h3 : (m == ("news_told" : Str)) = false) : (wF d L nw).lookup m = none := (lk_past h1).trans ((lk_past h2).trans ((lk_past h3).trans rfl))
theorem wF_best {d : Addr} {L : Nat} {nw : Addr} : (wF d L nw).lookup ("best" : Str) = none := wF_none (by decide +kernel) (by decide +kernel) (by decide +kernel)
theorem wF_minute {d : Addr} {L : Nat} {nw : Addr} : (wF d L nw).lookup ("minute_of" : Str) = none := wF_none (by decide +kernel) (by decide +kernel) (by decide +kernel)
theorem wF_late {d : Addr} {L : Nat} {nw : Addr} : (wF d L nw).lookup ("late_behind" : Str) = none := wF_none (by decide +kernel) (by decide +kernel) (by decide +kernel)
theorem wF_new (d : Addr) (L : Nat) (nw : Addr) : putF "news_told" (.ref nw) (putF "landing" (vN L) (putF "drives" (.ref d) [])) = wF d L nw := by
  show putF "news_told" (.ref nw) (putF "landing" (vN L) [("drives", .ref d)]) = _
  rw [put_past (by decide +kernel)]
  show putF "news_told" (.ref nw) [("drives", .ref d), ("landing", vN L)] = _
  rw [put_past (by decide +kernel), put_past (by decide +kernel)]
  rfl
structure WaysAt (CW : Addr) (H : Hp) (x : Addr) (c : Chase) (D : Nat → Nat → Nat) (dx d nw : Addr) (rs ts : List Addr) : Prop where
  obj : H x = some (.ins CW dx (wF d c.landing nw))
  mat : MatAt H d rs c.places D
  news : H nw = some (.lst (ts.map V.ref))
  each : NewsAt H ts c.news
theorem WaysAt.same {CW : Addr} {H H' : Hp} {x : Addr} {c : Chase} {D : Nat → Nat → Nat} {dx d nw : Addr} {rs ts : List Addr} (h : WaysAt CW H x c D dx d nw rs ts) (s : Same H H') : WaysAt CW H' x c D dx d nw rs ts := ⟨s _ _ h.obj, h.mat.same s, s _ _ h.news, h.each.same s⟩
def spWInit (CW : Addr) : Sp := fun vs H Q _ => ∃ (p dx d nw : Addr) (L : Nat), vs = [.ref p, .ref d, vN L, .ref nw] ∧ H p = some (.ins CW dx []) ∧
  ∀ H' : Hp, H' p = some (.ins CW dx (wF d L nw)) → (∀ b o, H b = some o → b ≠ p → H' b = some o) → Q .non H'
def spMinute (CW : Addr) : Sp := fun vs H Q _ => ∃ (x dx d nw : Addr) (c : Chase) (D : Nat → Nat → Nat) (rs ts : List Addr) (j : Nat), vs = [.ref x, vN j] ∧ WaysAt CW H x c D dx d nw rs ts ∧ j ≤ c.news.length ∧ Q (vN (minuteL c.landing (c.news.drop j))) H
section
variable {P : Program} {w : World} {K : PySem.W.Frag} {mg : Str → Option Value} {base : Heap} {CW CC : Addr}
theorem scWInit : FnScope ["self", "drives", "landing", "news_told"] ["self", "drives", "landing", "news_told"] (defScope sWInit) := ⟨rfl, rfl, rfl, by decide +kernel, rfl, by decide +kernel, by decide +kernel⟩
theorem ok_winit {f : Addr} {fd : FuncData} (F : Fun K "__init__" "Ways.__init__" sWInit f fd) (T : Txt K mg CW CC) : FnOk P w K mg base CX0 1 f fd ["self", "drives", "landing", "news_told"] (spWInit CW) := by
  refine F.ok scWInit (fun vs H Q E h => ?_) (fun cdv A outer s H vs Q E hr h => ?_)
  · obtain ⟨p, dx, d, nw, L, rfl, _⟩ := h
    rfl
  obtain ⟨p, dx, d, nw, L, rfl, hp, q⟩ := h
  refine ⟨_, pss_cons (ps_fld (pv 0) (pv 1) rfl) (pss_cons (ps_fld (pv 0) (pv 2) rfl) (pss_one (ps_fld (pv 0) (pv 3) rfl))), ?_⟩
  refine ⟨_, rfl, _, rfl, p, CW, dx, _, rfl, hp, T.clW, T.nDr, (by show 0 < 1000; decide), ?_⟩
  refine ⟨_, rfl, _, rfl, p, CW, dx, _, rfl, upd_same, T.clW, T.nLa, (by show 1 < 1000; decide), ?_⟩
  refine ⟨_, rfl, _, rfl, p, CW, dx, _, rfl, upd_same, T.clW, T.nNt, ?_, ?_⟩
  · show (putF "landing" (vN L) [("drives", .ref d)]).length < 1000
    rw [put_past (by decide +kernel)]
    show 2 < 1000
    decide
  refine q _ (Eq.trans upd_same (congrArg (fun z => some (HO.ins CW dx z)) (wF_new d L nw))) fun b o e hb => ?_
  rw [upd_ne hb, upd_ne hb, upd_ne hb]
  exact e
theorem scMinute : FnScope ["self", "stop"] ["self", "stop"] (defScope sMinute) := ⟨rfl, rfl, rfl, by decide +kernel, rfl, by decide +kernel, by decide +kernel⟩
theorem dec_nat {a b : Nat} : (decide (V.int ((a : Nat) : Int) = V.int ((b : Nat) : Int))) = decide (a = b) := by
  by_cases h : a = b
  · subst h; rw [decide_eq_true rfl, decide_eq_true rfl]
  · rw [decide_eq_false h, decide_eq_false]
    intro z
    have := V.int.inj z
    omega
theorem news_at {H : Hp} {ts : List Addr} {news : List News} (h : NewsAt H ts news) {j : Nat} (hj : j < news.length) : ∃ (t p : Addr) (x : News), ts[j]? = some t ∧ news.drop j = x :: news.drop (j + 1) ∧ H t = some (.tup [vN x.minute, .ref p]) ∧ H p = some (.lst (natsV x.parts)) ∧ x ∈ news := by
  have e : news[j]? = some news[j] := List.getElem?_eq_getElem hj
  obtain ⟨t, e1, p, e2, e3⟩ := paired_got h e
  exact ⟨t, p, news[j], e1, List.drop_eq_getElem_cons hj, e2, e3, List.getElem_mem hj⟩
theorem ok_minute {f : Addr} {fd : FuncData} (F : Fun K "minute_of" "Ways.minute_of" sMinute f fd) (T : Txt K mg CW CC) : FnOk P w K mg base CX0 1 f fd ["self", "stop"] (spMinute CW) := by
  refine F.ok scMinute (fun vs H Q E h => ?_) (fun cdv A outer s H vs Q E hr h => ?_)
  · obtain ⟨x, dx, d, nw, c, D, rs, ts, j, rfl, _⟩ := h
    rfl
  obtain ⟨x, dx, d, nw, c, D, rs, ts, j, rfl, W, hj, q⟩ := h
  refine ⟨_, pss_cons (ps_if (pt_cmpR op_eq (pv 1) (pe_callB call_len_seq (by rfl) T.len PySem.boot_len (pa_cons (pe_fld (pv 0) rfl) pa_nil)) (nomark _)) (pss_one (ps_ret (pe_fld (pv 0) rfl))) pss_nil)
    (pss_one (ps_ret (pe_ix ix_tup (pe_ix ix_list (pe_fld (pv 0) rfl) (pv 1) (fun _ _ => rfl)) pe_int (fun _ _ => rfl)))), ?_⟩
  have hl : (ts.map V.ref).length = c.news.length := by rw [List.length_map, paired_len W.each]
  refine ⟨_, rfl, _, rfl, x, CW, dx, _, _, rfl, W.obj, T.clW, T.nNt, wF_news .., nw, _, rfl, .inl (.of W.news), rfl, _, rfl, ?_⟩
  rw [hl, dec_nat]
  refine ite2 (fun z => ?_) (fun z => ?_)
  · have z := of_decide_eq_true z
    rw [z, List.drop_length] at q
    exact ⟨_, rfl, x, CW, dx, _, _, rfl, W.obj, T.clW, T.nLa, wF_landing .., q⟩
  · have z := of_decide_eq_false (Bool.eq_false_iff.mpr z)
    obtain ⟨t, p, y, e1, e2, e3, e4, _⟩ := news_at W.each (j := j) (by omega)
    rw [e2] at q
    exact ⟨_, rfl, x, CW, dx, _, _, rfl, W.obj, T.clW, T.nNt, wF_news .., _, rfl, nw, _, _, _, rfl, rfl, .of W.news, atI_nat (refs_get e1), t, _, _, _, rfl, rfl, .inl (.inl e3), rfl, q⟩
end
end Rb

namespace Rb
open PySem PySem.Spec PyProof.Rows L2
open Si94 (Chase News)
theorem natsV_ints (l : List Nat) : natsV l = (l.map fun n => ((n : Nat) : Int)).map V.int := by
  unfold natsV; rw [List.map_map]; rfl
/-- max of a list of numbers that aren't negative -/
theorem max_nats {l : List Nat} {m : Int} (h : m ∈ l.map fun n => ((n : Nat) : Int)) (g : ∀ y ∈ l.map (fun n => ((n : Nat) : Int)), y ≤ m) : m = ((maxOf l : Nat) : Int) := by
  obtain ⟨k, hk, rfl⟩ := List.mem_map.mp h
  rw [maxOf_is hk fun x hx => by
    have := g _ (List.mem_map.mpr ⟨x, hx, rfl⟩)
    omega]
/-- late_behind, with m stops at the most still to come -/
def spLate (CW : Addr) (m : Nat) : Sp := fun vs H Q _ => ∃ (x dx d nw lp : Addr) (c : Chase) (D : Nat → Nat → Nat) (rs ts : List Addr) (j q t p : Nat) (S : List Nat), vs = [.ref x, vN j, vN q, .ref lp] ∧ WaysAt CW H x c D dx d nw rs ts ∧ Okc c ∧ IsDist c.places c.roads D ∧
  H lp = some (.lst (natsV S)) ∧ S ≠ [] ∧ S.length ≤ 6 ∧ j ≤ c.news.length ∧ c.news.length + 1 ≤ j + m ∧ Fit c D (c.news.drop j) t p S ∧ q < c.places ∧ t + D p q ≤ minuteL c.landing (c.news.drop j) ∧
  ∀ H' : Hp, Same H H' → Q (vN (lateL c.places c.landing D (c.news.drop j) q S)) H'
/-- best, with m stops at the most still to come -/
def spBest (CW : Addr) (m : Nat) : Sp := fun vs H Q _ => ∃ (x dx d nw lp : Addr) (c : Chase) (D : Nat → Nat → Nat) (rs ts : List Addr) (j t p : Nat) (S : List Nat), vs = [.ref x, vN p, vN t, vN j, .ref lp] ∧ WaysAt CW H x c D dx d nw rs ts ∧ Okc c ∧ IsDist c.places c.roads D ∧
  H lp = some (.lst (natsV S)) ∧ S ≠ [] ∧ S.length ≤ 6 ∧ j ≤ c.news.length ∧ c.news.length + 1 ≤ j + m ∧ Fit c D (c.news.drop j) t p S ∧
  ∀ (H' : Hp) (r : Addr) (y : Cand), Same H H' → H r = none → H' r = some (.lst [vN y.1, vN y.2.1, vN y.2.2]) → (bestL c.places c.landing D (c.news.drop j) t p S).foldl pick none = some y → Q (.ref r) H'
section
variable {P : Program} {w : World} {K : PySem.W.Frag} {mg : Str → Option Value} {base : Heap} {CW CC : Addr}
abbrev nLate : List Str := ["self", "stop", "place", "landing_places", "minute", "parts", "landing_place", "left"]
abbrev pLate : List Str := ["self", "stop", "place", "landing_places"]
abbrev pBest : List Str := ["self", "car", "minute", "first_stop", "landing_places"]
theorem scLate : FnScope nLate pLate (defScope sLate) := ⟨rfl, rfl, rfl, by decide +kernel, rfl, by decide +kernel, by decide +kernel⟩
theorem ok_late {m k : Nat} {f fP fB : Addr} {fd fdP fdB : FuncData} (F : Fun K "late_behind" "Ways.late_behind" sLate f fd) (T : Txt K mg CW CC)
    (GP : FnOk P w K mg base CX0 1 fP fdP ["landing_places", "parts"] spParted) (bP : Binds K fdP ["landing_places", "parts"] []) (kP : PySem.W.keepIn K (.ref fP) = true) (mP : mg "parted" = some (.ref fP))
    (GB : FnOk P w K mg base CX0 (k + 1) fB fdB pBest (spBest CW m)) (bB : Binds K fdB pBest []) (mB : Meth K CW "best" fB) :
    FnOk P w K mg base CX0 (k + 2) f fd pLate (spLate CW (m + 1)) := by
  refine F.ok scLate (fun vs H Q E h => ?_) (fun cdv A outer s H vs Q E hr h => ?_)
  · obtain ⟨x, dx, d, nw, lp, c, D, rs, ts, j, q, t, p, S, rfl, _⟩ := h
    rfl
  obtain ⟨x, dx, d, nw, lp, c, D, rs, ts, j, q, t, p, S, rfl, W, ok, dist, hS, hne, h6, hj, hm, fit, hq, hmin, out⟩ := h
  have nd := scLate.nd
  have hr1 : Room 1 _ := hr.mono (by omega)
  refine ⟨_, pss_cons (ps_if (pt_cmpR op_eq (pv 1) (pe_callB call_len_seq (by rfl) T.len PySem.boot_len (pa_cons (pe_fld (pv 0) rfl) pa_nil)) (nomark _))
      (pss_one (ps_ret (pe_callB (cr_max rfl) (by rfl) T.max (by decide +kernel) (pa_cons
        (pe_lc (own := [("landing_place", 6)]) (g := gName 6) (tt := tYes) (te := tOp (rIxL K) (tOp (rIxL K) (tFld K (tVar 0) "drives") (tVar 2)) (tVar 6)) (by rfl) nd (pi_list (pv 3)) (blkOk_by (own := [("landing_place", 6)]) (N := nLate) (sc := defScope sLate) (by decide +kernel))
          (fun _ _ _ _ _ => pg_name (i := 6) nd rfl (Or.inl rfl)) (fun _ _ _ _ _ => pts_nil)
          (fun _ _ _ _ _ => pe_ix ix_list (pe_ix ix_list (pe_fld (pv 0) rfl) (pv 2) (fun _ _ => rfl)) (pv 6) (fun _ _ => rfl))) pa_nil)))) pss_nil)
    (pss_cons (ps_set (i := 4) nd rfl (Or.inr rfl) (pe_ix ix_tup (pe_ix ix_list (pe_fld (pv 0) rfl) (pv 1) (fun _ _ => rfl)) pe_int (fun _ _ => rfl)))
    (pss_cons (ps_set (i := 5) nd rfl (Or.inl rfl) (pe_ix ix_tup (pe_ix ix_list (pe_fld (pv 0) rfl) (pv 1) (fun _ _ => rfl)) pe_int (fun _ _ => rfl)))
    (pss_one (ps_ret (pe_callB (cr_max rfl) (by rfl) T.max (by decide +kernel) (pa_cons
        (pe_lc (own := [("left", 7)]) (g := gName 7) (tt := tYes) (te := tOp (rIxL K) (tMeth CW "best" (spBest CW m) [] E0 (tVar 0) (tCons (tVar 2) (tCons (tVar 4) (tCons (tOp (rI0 fun i j => .int (i + j)) (tVar 1) (tC (.int 1))) (tCons (tVar 7) tNil))))) (tC (.int 0))) (by rfl) nd (pi_list (pe_call GP hr1 rfl mP kP bP .nil pass0 (pa_cons (pv 3) (pa_cons (pv 5) pa_nil)))) (blkOk_by (own := [("left", 7)]) (N := nLate) (sc := defScope sLate) (by decide +kernel))
          (fun _ _ _ _ _ => pg_name (i := 7) nd rfl (Or.inl rfl)) (fun _ _ _ _ _ => pts_nil)
          (fun _ _ _ _ _ => pe_ix ix_list (pe_meth (pv 0) T.clW mB GB hr bB .nil pass0 (pa_cons (pv 2) (pa_cons (pv 4) (pa_cons (pe_op op_add (pv 1) pe_int) (pa_cons (pv 7) pa_nil))))) pe_int (fun _ _ => rfl))) pa_nil)))))), ?_⟩
  have hl : (ts.map V.ref).length = c.news.length := by rw [List.length_map, paired_len W.each]
  have hNO : NO = 1000000 := rfl
  refine ⟨_, rfl, _, rfl, x, CW, dx, _, _, rfl, W.obj, T.clW, T.nNt, wF_news .., nw, _, rfl, .inl (.of W.news), rfl, _, rfl, ?_⟩
  rw [hl, dec_nat]
  refine ite2 (fun z => ?_) (fun z => ?_)
  · have z := of_decide_eq_true z
    rw [z, List.drop_length] at out
    refine ⟨_, rfl, lp, rfl, ⟨_, .of hS⟩, fun a ha => ?_⟩
    refine lc_list (K := K) (a := lp) (xs := natsV S) (fun i H' => Same H H' ∧ H' a = some (.lst (natsV ((S.take i).map fun v => D q v)))) ⟨same_new ha _, upd_same⟩ (fun i H' _ ⟨s, _⟩ => .of (s _ _ hS)) ?_ ?_
    · rintro i y H1 hi ⟨s1, e1⟩
      obtain ⟨v, hv, rfl⟩ := natsV_got hi
      have hvn := fit.sub v (List.mem_of_getElem? hv)
      have W1 := W.same s1
      have lq : q < rs.length := by rw [W.mat.len]; exact hq
      have eq1 : rs[q]? = some rs[q] := List.getElem?_eq_getElem lq
      refine ⟨rfl, ?_⟩
      refine ⟨_, rfl, x, CW, dx, _, _, rfl, W1.obj, T.clW, T.nDr, wF_drives .., _, rfl, d, _, _, _, rfl, rfl, .of W1.mat.at_, atI_nat (refs_get eq1), _, rfl, rs[q], _, _, _, rfl, rfl, .of (W1.mat.rows q _ eq1), atI_nat (rowV_get _ hvn), ?_⟩
      refine ⟨_, e1, ?_, same_over s1 ha _, ?_⟩
      · rw [natsV_length, List.length_map, List.length_take]
        exact small1000 (by omega)
      · rw [upd_same, take_more hv, List.map_append, ← natsV_snoc]; rfl
    · rintro H1 ⟨s1, e1⟩
      rw [natsV_length, List.take_length, natsV_ints] at e1
      refine ⟨a, _, rfl, .of e1, ?_, fun m hm1 hm2 => ?_⟩
      · rw [List.length_map, List.length_map]
        exact List.length_pos_iff.mpr hne
      · rw [max_nats hm1 hm2]
        exact out H1 s1
  · have z := of_decide_eq_false (Bool.eq_false_iff.mpr z)
    obtain ⟨t', pa, y, e1, e2, e3, e4, e5⟩ := news_at W.each (j := j) (by omega)
    rw [e2] at out fit hmin
    refine ⟨_, rfl, x, CW, dx, _, _, rfl, W.obj, T.clW, T.nNt, wF_news .., _, rfl, nw, _, _, _, rfl, rfl, .of W.news, atI_nat (refs_get e1), t', _, _, _, rfl, rfl, .inl (.inl e3), rfl, ?_⟩
    refine ⟨_, rfl, x, CW, dx, _, _, rfl, W.obj, T.clW, T.nNt, wF_news .., _, rfl, nw, _, _, _, rfl, rfl, .of W.news, atI_nat (refs_get e1), t', _, _, _, rfl, rfl, .inl (.inl e3), rfl, ?_⟩
    -- parted(landing_places, parts)
    refine ⟨_, rfl, _, rfl, lp, pa, S, y.parts, rfl, hS, e4, fun v hv => by rw [ok.parts y e5]; exact fit.sub v hv, h6, fun H1 r us s1 er pu => ?_⟩
    refine ⟨r, rfl, ⟨_, .of er⟩, fun a ha => ?_⟩
    refine lc_list (K := K) (a := r) (xs := us.map V.ref) (fun i H' => Same H1 H' ∧ H' a = some (.lst (natsV (((Si94.split y.parts S).take i).map fun u => low (bestL c.places c.landing D (c.news.drop (j + 1)) y.minute q u))))) ⟨same_new ha _, upd_same⟩ (fun i H' _ ⟨s, _⟩ => .of (s _ _ er)) ?_ ?_
    · rintro i v H2 hi ⟨s2, e6⟩
      obtain ⟨lu, hlu, rfl⟩ := refs_got hi
      obtain ⟨u, hu, hu2⟩ := paired_get pu hlu
      have hum := List.mem_of_getElem? hu
      have W2 := (W.same s1).same s2
      have ul : u.length ≤ 6 := by
        obtain ⟨k, _, rfl⟩ := List.mem_map.mp hum
        exact Nat.le_trans (List.length_filter_le _ _) h6
      refine ⟨rfl, ?_⟩
      refine ⟨_, rfl, x, dx, _, rfl, W2.obj, wF_best, _, rfl, _, rfl, _, rfl, _, _, rfl, rfl, _, rfl, ?_⟩
      refine ⟨x, dx, d, nw, lu, c, D, rs, ts, j + 1, y.minute, q, u, rfl, W2, ok, dist, s2 _ _ hu2, (split_sub hum).2, ul, by omega, by omega, fit.heard dist ok.land hq hmin (split_sub hum).1, fun H3 r3 yy s3 n3 e7 e8 => ?_⟩
      refine ⟨r3, _, _, _, rfl, rfl, .of e7, rfl, ?_⟩
      refine ⟨_, s3 _ _ e6, ?_, same_over (s2.trans s3) ha _, ?_⟩
      · rw [natsV_length, List.length_map, List.length_take]
        have : (Si94.split y.parts S).length ≤ 6 := by
          rw [← paired_len pu]
          have h1 : ∀ l : List Nat, l.eraseDups.length ≤ l.length := by
            intro l
            induction h : l.length using Nat.strongRecOn generalizing l with
            | ind n ih =>
              cases l with
              | nil => simp
              | cons a l =>
                rw [List.eraseDups_cons, List.length_cons]
                simp only [List.length_cons] at h
                have f := List.length_filter_le (fun b => !b == a) l
                have := ih (List.filter (fun b => !b == a) l).length (by omega) _ rfl
                omega
          have g := h1 (S.map fun v => y.parts.getD v 0)
          rw [List.length_map] at g
          rw [paired_len pu]
          unfold Si94.split
          rw [List.length_map]
          omega
        exact small1000 (by omega)
      · rw [upd_same, take_more hu, List.map_append, ← (low_of e8).1, ← natsV_snoc]; rfl
    · rintro H2 ⟨s2, e6⟩
      rw [List.length_map, paired_len pu, List.take_length, natsV_ints] at e6
      refine ⟨a, _, rfl, .of e6, ?_, fun m hm1 hm2 => ?_⟩
      · rw [List.length_map, List.length_map]
        refine List.length_pos_iff.mpr fun z2 => ?_
        cases S with
        | nil => exact hne rfl
        | cons v S =>
          obtain ⟨u, hu, _⟩ := split_mem (p := y.parts) (S := v :: S) List.mem_cons_self
          rw [z2] at hu; cases hu
      · rw [max_nats hm1 hm2]
        exact out H2 (s1.trans s2)
end
end Rb

namespace Rb
open PySem PySem.Spec PyProof.Rows L2
open Si94 (Chase News)
/-- what is found so far, as it lies in the list -/
def foundV : Option Cand → List V
  | none => []
  | some y => [vN y.1, vN y.2.1, vN y.2.2]
section
variable {P : Program} {w : World} {K : PySem.W.Frag} {mg : Str → Option Value} {base : Heap} {CW CC : Addr}
abbrev nBest : List Str := ["self", "car", "minute", "first_stop", "landing_places", "found", "stop", "by", "place", "late"]
theorem scBest : FnScope nBest pBest (defScope sBest) := ⟨rfl, rfl, rfl, by decide +kernel, rfl, by decide +kernel, by decide +kernel⟩
theorem ok_best {m k : Nat} {f fM fL : Addr} {fd fdM fdL : FuncData} (F : Fun K "best" "Ways.best" sBest f fd) (T : Txt K mg CW CC)
    (GM : FnOk P w K mg base CX0 1 fM fdM ["self", "stop"] (spMinute CW)) (bM : Binds K fdM ["self", "stop"] []) (mM : Meth K CW "minute_of" fM)
    (GL : FnOk P w K mg base CX0 (k + 1) fL fdL pLate (spLate CW m)) (bL : Binds K fdL pLate []) (mL : Meth K CW "late_behind" fL) :
    FnOk P w K mg base CX0 (k + 2) f fd pBest (spBest CW m) := by
  refine F.ok scBest (fun vs H Q E h => ?_) (fun cdv A outer s H vs Q E hr h => ?_)
  · obtain ⟨x, dx, d, nw, lp, c, D, rs, ts, j, t, p, S, rfl, _⟩ := h
    rfl
  obtain ⟨x, dx, d, nw, lp, c, D, rs, ts, j, t, p, S, rfl, W, ok, dist, hS, hne, h6, hj, hm, fit, out⟩ := h
  have nd := scBest.nd
  have hr1 : Room 1 _ := hr.mono (by omega)
  refine ⟨_, pss_cons (ps_set (i := 5) nd rfl (Or.inl rfl) (pe_lst pa_nil))
    (pss_cons (ps_for PassesOwn.never rfl (pi_range2 rfl T.range (pa_cons (pv 3) (pa_cons (pe_op op_add (pe_callB call_len_seq (by rfl) T.len PySem.boot_len (pa_cons (pe_fld (pv 0) rfl) pa_nil)) pe_int) pa_nil))) (pg_name (i := 6) nd rfl (Or.inl rfl))
      (pss_cons (ps_set (i := 7) nd rfl (Or.inl rfl) (pe_meth (pv 0) T.clW mM GM hr1 bM .nil pass0 (pa_cons (pv 6) pa_nil)))
      (pss_one (ps_for PassesOwn.never rfl (pi_range1 rfl T.range (pa_cons (pe_callB call_len_seq (by rfl) T.len PySem.boot_len (pa_cons (pe_fld (pv 0) rfl) pa_nil)) pa_nil)) (pg_name (i := 8) nd rfl (Or.inl rfl))
        (pss_one (ps_if (pt_cmpR op_le (pe_op op_add (pv 2) (pe_ix ix_list (pe_ix ix_list (pe_fld (pv 0) rfl) (pv 1) (fun _ _ => rfl)) (pv 8) (fun _ _ => rfl))) (pv 7) (nomark _))
          (pss_cons (ps_set (i := 9) nd rfl (Or.inl rfl) (pe_meth (pv 0) T.clW mL GL hr bL .nil pass0 (pa_cons (pv 6) (pa_cons (pv 8) (pa_cons (pv 4) pa_nil)))))
          (pss_one (ps_if (PW.pt (pw_or (pt_cmpR op_eq (pe_callB call_len_seq (by rfl) T.len PySem.boot_len (pa_cons (pv 5) pa_nil)) pe_int (nomark _)) (pw_or1 (pt_cmpR op_lt (pv 9) (pe_ix ix_list (pv 5) pe_int (fun _ _ => rfl)) (nomark _)))))
            (pss_one (ps_set (i := 5) nd rfl (Or.inl rfl) (pe_lst (pa_cons (pv 9) (pa_cons (pv 8) (pa_cons (pv 7) pa_nil)))))) pss_nil))) pss_nil))))))
    (pss_one (ps_ret (pv 5)))), ?_⟩
  have hl : (ts.map V.ref).length = c.news.length := by rw [List.length_map, paired_len W.each]
  have n6 := ok.n6
  have hNO : NO = 1000000 := rfl
  have n3 := ok.n3
  refine ⟨(by show 0 ≤ sizeLine; decide), fun r0 hr0 => ?_⟩
  have s0 : Same H (upd H r0 (.lst [])) := same_new hr0 _
  have W0 := W.same s0
  refine ⟨_, rfl, _, rfl, x, CW, dx, _, _, rfl, W0.obj, T.clW, T.nNt, wF_news .., nw, _, rfl, .inl (.of W0.news), _, _, rfl, rfl, _, _, rfl, ?_, ?_⟩
  · rw [hl]; omega
  rw [hl]
  have en : ((c.news.length : Int) + 1 - (j : Int)).toNat = (c.news.drop j).length + 1 := by rw [List.length_drop]; omega
  rw [en]
  refine for_range (lo := ((j : Nat) : Int)) (n := (c.news.drop j).length + 1) (fun i σ H' => ∃ (v6 v7 v8 v9 : Option V) (r : Addr), σ = [some (.ref x), some (vN p), some (vN t), some (vN j), some (.ref lp), some (.ref r), v6, v7, v8, v9] ∧ Same H H' ∧ H r = none ∧
      H' r = some (.lst (foundV (((List.range i).flatMap fun k => row c.places c.landing D ((c.news.drop j).drop k) t p S).foldl pick none))))
    ⟨none, none, none, none, r0, rfl, s0, hr0, upd_same⟩ ?_ ?_
  · rintro i σ H1 hi ⟨v6, v7, v8, v9, r, rfl, s1, hr, e1⟩
    have ei : ((j : Nat) : Int) + ((i : Nat) : Int) = ((j + i : Nat) : Int) := by omega
    rw [ei]
    have hji : j + i ≤ c.news.length := by rw [List.length_drop] at hi; omega
    have W1 := W.same s1
    have fiti : Fit c D (c.news.drop (j + i)) t p S := by
      rw [← List.drop_drop]
      exact ⟨fit.at_, fit.sub, fit.reach, fit.ord.drop i⟩
    -- by = self.minute_of(stop)
    refine ⟨_, rfl, x, dx, _, rfl, W1.obj, wF_minute, _, rfl, ?_⟩
    refine ⟨x, dx, d, nw, c, D, rs, ts, j + i, rfl, W1, hji, ?_⟩
    -- for place in range(len(self.drives))
    have hl2 : (rs.map V.ref).length = c.places := by rw [List.length_map, W.mat.len]
    refine ⟨_, rfl, x, CW, dx, _, _, rfl, W1.obj, T.clW, T.nDr, wF_drives .., d, _, rfl, .inl (.of W1.mat.at_), ((c.places : Nat) : Int), by rw [hl2], by omega, by omega, ?_⟩
    refine for_range (lo := 0) (n := c.places) (fun q σ H' => ∃ (v8 v9 : Option V) (r : Addr), σ = [some (.ref x), some (vN p), some (vN t), some (vN j), some (.ref lp), some (.ref r), some (vN (j + i)), some (vN (minuteL c.landing (c.news.drop (j + i)))), v8, v9] ∧ Same H H' ∧ H r = none ∧
      H' r = some (.lst (foundV ((((List.range i).flatMap fun k => row c.places c.landing D ((c.news.drop j).drop k) t p S) ++ (List.range q).filterMap (cand c.places c.landing D (c.news.drop (j + i)) t p S)).foldl pick none))))
      ⟨v8, v9, r, rfl, s1, hr, by rw [List.range_zero, List.filterMap_nil, List.append_nil]; exact e1⟩ ?_ ?_
    · rintro q σ H2 hq ⟨v8, v9, r, rfl, s2, hr, e2⟩
      have eq : (0 : Int) + ((q : Nat) : Int) = ((q : Nat) : Int) := by omega
      rw [eq]
      have W2 := W.same s2
      have lp' : p < rs.length := by rw [W.mat.len]; exact fit.at_
      have ep : rs[p]? = some rs[p] := List.getElem?_eq_getElem lp'
      generalize hcs : ((List.range i).flatMap fun k => row c.places c.landing D ((c.news.drop j).drop k) t p S) ++ (List.range q).filterMap (cand c.places c.landing D (c.news.drop (j + i)) t p S) = cs at e2
      have grow : ((List.range i).flatMap fun k => row c.places c.landing D ((c.news.drop j).drop k) t p S) ++ (List.range (q + 1)).filterMap (cand c.places c.landing D (c.news.drop (j + i)) t p S) = cs ++ [q].filterMap (cand c.places c.landing D (c.news.drop (j + i)) t p S) := by
        rw [List.range_succ, List.filterMap_append, ← List.append_assoc, hcs]
      refine ⟨_, rfl, _, rfl, x, CW, dx, _, _, rfl, W2.obj, T.clW, T.nDr, wF_drives .., _, rfl, d, _, _, _, rfl, rfl, .of W2.mat.at_, atI_nat (refs_get ep), _, rfl, rs[p], _, _, _, rfl, rfl, .of (W2.mat.rows p _ ep), atI_nat (rowV_get _ hq), _, _, rfl, rfl, _, rfl, _, _, rfl, rfl, _, rfl, ?_⟩
      refine ite2 (fun z => ?_) (fun z => ?_)
      · have z : t + D p q ≤ minuteL c.landing (c.news.drop (j + i)) := by
          have := of_decide_eq_true z
          omega
        have ec : [q].filterMap (cand c.places c.landing D (c.news.drop (j + i)) t p S) = [(lateL c.places c.landing D (c.news.drop (j + i)) q S, q, minuteL c.landing (c.news.drop (j + i)))] := by
          unfold cand
          rw [List.filterMap_cons, if_pos z]; rfl
        rw [ec] at grow
        -- late = self.late_behind(stop, place, landing_places)
        refine ⟨_, rfl, x, dx, _, rfl, W2.obj, wF_late, _, rfl, _, rfl, _, rfl, ?_⟩
        refine ⟨x, dx, d, nw, lp, c, D, rs, ts, j + i, q, t, p, S, rfl, W2, ok, dist, s2 _ _ hS, hne, h6, hji, by omega, fiti, hq, z, fun H3 s3 => ?_⟩
        have e3 := s3 _ _ e2
        refine ⟨_, rfl, r, _, rfl, .inl (.of e3), rfl, _, rfl, ?_⟩
        have sH := s2.trans s3
        -- the new one is taken
        have taken : ∀ (H4 : Hp) (r4 : Addr), H3 r4 = none → H4 = upd H3 r4 (.lst [vN (lateL c.places c.landing D (c.news.drop (j + i)) q S), vN q, vN (minuteL c.landing (c.news.drop (j + i)))]) →
            (cs ++ [(lateL c.places c.landing D (c.news.drop (j + i)) q S, q, minuteL c.landing (c.news.drop (j + i)))]).foldl pick none = some (lateL c.places c.landing D (c.news.drop (j + i)) q S, q, minuteL c.landing (c.news.drop (j + i))) →
            Same H H4 ∧ H r4 = none ∧ H4 r4 = some (.lst (foundV ((((List.range i).flatMap fun k => row c.places c.landing D ((c.news.drop j).drop k) t p S) ++ (List.range (q + 1)).filterMap (cand c.places c.landing D (c.news.drop (j + i)) t p S)).foldl pick none))) := by
          rintro H4 r4 n4 rfl e4
          refine ⟨same_over sH (sH.free n4) _, sH.free n4, ?_⟩
          rw [upd_same, grow, e4]; rfl
        cases efo : cs.foldl pick none with
        | none =>
          rw [efo] at e3 e2
          refine ⟨_, rfl, _, rfl, _, rfl, (by show 3 ≤ sizeLine; decide), fun r4 n4 => ?_⟩
          obtain ⟨a1, a2, a3⟩ := taken _ r4 n4 rfl (by rw [List.foldl_append, efo]; rfl)
          exact ⟨_, _, r4, rfl, a1, a2, a3⟩
        | some b =>
          rw [efo] at e3 e2
          refine ⟨_, rfl, _, rfl, r, _, _, _, rfl, rfl, .of e3, rfl, _, _, rfl, rfl, _, rfl, ?_⟩
          refine ite2 (fun z2 => ?_) (fun z2 => ?_)
          · have z2 := of_decide_eq_true z2
            refine ⟨_, rfl, _, rfl, _, rfl, (by show 3 ≤ sizeLine; decide), fun r4 n4 => ?_⟩
            obtain ⟨a1, a2, a3⟩ := taken _ r4 n4 rfl (by
              rw [List.foldl_append, efo]
              exact if_pos (by show lateL c.places c.landing D (c.news.drop (j + i)) q S < b.1; omega))
            exact ⟨_, _, r4, rfl, a1, a2, a3⟩
          · have z2 := of_decide_eq_false (Bool.eq_false_iff.mpr z2)
            refine ⟨_, _, r, rfl, sH, hr, ?_⟩
            rw [e3, grow, List.foldl_append, efo]
            refine congrArg (fun z => some (HO.lst (foundV z))) (Eq.symm (if_neg ?_))
            show ¬ lateL c.places c.landing D (c.news.drop (j + i)) q S < b.1
            omega
      · have z : ¬ t + D p q ≤ minuteL c.landing (c.news.drop (j + i)) := by
          have := of_decide_eq_false (Bool.eq_false_iff.mpr z)
          omega
        have ec : [q].filterMap (cand c.places c.landing D (c.news.drop (j + i)) t p S) = [] := by
          unfold cand
          rw [List.filterMap_cons, if_neg z]; rfl
        refine ⟨_, _, r, rfl, s2, hr, ?_⟩
        rw [grow, ec, List.append_nil]
        exact e2
    · rintro σ H2 ⟨v8, v9, r, rfl, s2, hr, e2⟩
      refine ⟨_, _, _, _, r, rfl, s2, hr, ?_⟩
      rw [e2, List.range_succ, List.flatMap_append]
      have : [i].flatMap (fun k => row c.places c.landing D ((c.news.drop j).drop k) t p S) = (List.range c.places).filterMap (cand c.places c.landing D (c.news.drop (j + i)) t p S) := by
        show row c.places c.landing D ((c.news.drop j).drop i) t p S ++ [] = _
        rw [List.append_nil, List.drop_drop]
        rfl
      rw [this]
  · rintro σ H1 ⟨v6, v7, v8, v9, r, rfl, s1, hr, e1⟩
    rw [bestL_stops] at e1
    obtain ⟨y, ey, _, _⟩ := pick_first (bestL_ne dist fit)
    rw [ey] at e1
    exact ⟨_, rfl, out H1 r y s1 hr e1 ey⟩
end
end Rb

namespace Rb
open PySem PySem.Spec PyProof.Rows L2
open Si94 (Chase News)
/-! ### best and late_behind together, by the stops still to come -/
section
variable {P : Program} {w : World} {K : PySem.W.Frag} {mg : Str → Option Value} {base : Heap} {CW CC : Addr}
theorem late_none {f : Addr} {fd : FuncData} : FnOk P w K mg base CX0 1 f fd pLate (spLate CW 0) := by
  have no : ∀ vs H Q E, ¬ spLate CW 0 vs H Q E := fun vs H Q E h => by
    obtain ⟨x, dx, d, nw, lp, c, D, rs, ts, j, q, t, p, S, _, _, _, _, _, _, _, h1, h2, _⟩ := h
    omega
  exact ⟨fun vs H Q E h => absurd h (no vs H Q E), fun A outer s H args us vs Q E _ _ _ _ h => absurd h (no vs H Q E)⟩
theorem ok_both {fB fL fM fP : Addr} {fdB fdL fdM fdP : FuncData} (FB : Fun K "best" "Ways.best" sBest fB fdB) (FL : Fun K "late_behind" "Ways.late_behind" sLate fL fdL) (T : Txt K mg CW CC)
    (bB : Binds K fdB pBest []) (mB : Meth K CW "best" fB) (bL : Binds K fdL pLate []) (mL : Meth K CW "late_behind" fL)
    (GM : FnOk P w K mg base CX0 1 fM fdM ["self", "stop"] (spMinute CW)) (bM : Binds K fdM ["self", "stop"] []) (mM : Meth K CW "minute_of" fM)
    (GP : FnOk P w K mg base CX0 1 fP fdP ["landing_places", "parts"] spParted) (bP : Binds K fdP ["landing_places", "parts"] []) (kP : PySem.W.keepIn K (.ref fP) = true) (mP : mg "parted" = some (.ref fP)) :
    ∀ m : Nat, FnOk P w K mg base CX0 (2 * m + 1) fL fdL pLate (spLate CW m) ∧ FnOk P w K mg base CX0 (2 * m + 2) fB fdB pBest (spBest CW m)
  | 0 => ⟨late_none, ok_best FB T GM bM mM late_none bL mL⟩
  | m + 1 => by
    have ih := ok_both FB FL T bB mB bL mL GM bM mM GP bP kP mP m
    have l : FnOk P w K mg base CX0 (2 * (m + 1) + 1) fL fdL pLate (spLate CW (m + 1)) := ok_late FL T GP bP kP mP ih.2 bB mB
    exact ⟨l, ok_best FB T GM bM mM l bL mL⟩
end
/-! ### the chase's object -/
def cF (c : Chase) (lp rd nw : Addr) : List (Str × V) := [("places", vN c.places), ("car", vN c.start), ("landing", vN c.landing), ("landing_places", .ref lp), ("roads", .ref rd), ("news_told", .ref nw)]
section
variable {c : Chase} {lp rd nw : Addr}
theorem cF_places : (cF c lp rd nw).lookup ("places" : Str) = some (vN c.places) := lk_here
theorem cF_car : (cF c lp rd nw).lookup ("car" : Str) = some (vN c.start) := (lk_past (by decide +kernel)).trans lk_here
theorem cF_landing : (cF c lp rd nw).lookup ("landing" : Str) = some (vN c.landing) := (lk_past (by decide +kernel)).trans ((lk_past (by decide +kernel)).trans lk_here)
theorem cF_lp : (cF c lp rd nw).lookup ("landing_places" : Str) = some (.ref lp) := (lk_past (by decide +kernel)).trans ((lk_past (by decide +kernel)).trans ((lk_past (by decide +kernel)).trans lk_here))
theorem cF_roads : (cF c lp rd nw).lookup ("roads" : Str) = some (.ref rd) := (lk_past (by decide +kernel)).trans ((lk_past (by decide +kernel)).trans ((lk_past (by decide +kernel)).trans ((lk_past (by decide +kernel)).trans lk_here)))
theorem cF_news : (cF c lp rd nw).lookup ("news_told" : Str) = some (.ref nw) := (lk_past (by decide +kernel)).trans ((lk_past (by decide +kernel)).trans ((lk_past (by decide +kernel)).trans ((lk_past (by decide +kernel)).trans ((lk_past (by decide +kernel)).trans lk_here))))
theorem cF_none {m : Str} (h : ((["places", "car", "landing", "landing_places", "roads", "news_told"] : List Str).all fun g => !(m == g)) = true) : (cF c lp rd nw).lookup m = none := by
  simp only [List.all_cons, List.all_nil, Bool.and_true, Bool.and_eq_true, Bool.not_eq_true'] at h
  obtain ⟨h1, h2, h3, h4, h5, h6⟩ := h
  exact (lk_past h1).trans ((lk_past h2).trans ((lk_past h3).trans ((lk_past h4).trans ((lk_past h5).trans ((lk_past h6).trans rfl)))))
theorem cF_putLp (q : Addr) (s : Nat) : putF "landing_places" (.ref q) (cF c lp rd nw) = cF { c with may := s } q rd nw := by
  unfold cF
  rw [put_past (by decide +kernel), put_past (by decide +kernel), put_past (by decide +kernel), put_here]
end
def anewF (fs : List (Str × V)) (n st t : Nat) (lp rd nw : Addr) : List (Str × V) := putF "news_told" (.ref nw) (putF "roads" (.ref rd) (putF "landing_places" (.ref lp) (putF "landing" (vN t) (putF "car" (vN st) (putF "places" (vN n) fs)))))
def begun (n st t : Nat) : Chase := ⟨n, st, t, [], 2 ^ n - 1, []⟩
theorem anew_nil (n st t : Nat) (lp rd nw : Addr) : anewF [] n st t lp rd nw = cF (begun n st t) lp rd nw := by
  show putF "news_told" (.ref nw) (putF "roads" (.ref rd) (putF "landing_places" (.ref lp) (putF "landing" (vN t) (putF "car" (vN st) [("places", vN n)])))) = _
  rw [put_past (f := "car") (by decide +kernel)]
  show putF "news_told" (.ref nw) (putF "roads" (.ref rd) (putF "landing_places" (.ref lp) (putF "landing" (vN t) [("places", vN n), ("car", vN st)]))) = _
  rw [put_past (f := "landing") (by decide +kernel), put_past (f := "landing") (by decide +kernel)]
  show putF "news_told" (.ref nw) (putF "roads" (.ref rd) (putF "landing_places" (.ref lp) [("places", vN n), ("car", vN st), ("landing", vN t)])) = _
  rw [put_past (f := "landing_places") (by decide +kernel), put_past (f := "landing_places") (by decide +kernel), put_past (f := "landing_places") (by decide +kernel)]
  show putF "news_told" (.ref nw) (putF "roads" (.ref rd) [("places", vN n), ("car", vN st), ("landing", vN t), ("landing_places", .ref lp)]) = _
  rw [put_past (f := "roads") (by decide +kernel), put_past (f := "roads") (by decide +kernel), put_past (f := "roads") (by decide +kernel), put_past (f := "roads") (by decide +kernel)]
  show putF "news_told" (.ref nw) [("places", vN n), ("car", vN st), ("landing", vN t), ("landing_places", .ref lp), ("roads", .ref rd)] = _
  rw [put_past (f := "news_told") (by decide +kernel), put_past (f := "news_told") (by decide +kernel), put_past (f := "news_told") (by decide +kernel), put_past (f := "news_told") (by decide +kernel), put_past (f := "news_told") (by decide +kernel)]
  rfl
theorem anew_cF (c : Chase) (lp' rd' nw' : Addr) (n st t : Nat) (lp rd nw : Addr) : anewF (cF c lp' rd' nw') n st t lp rd nw = cF (begun n st t) lp rd nw := by
  unfold anewF cF
  rw [put_here, put_past (f := "car") (by decide +kernel), put_here]
  rw [put_past (f := "landing") (by decide +kernel), put_past (f := "landing") (by decide +kernel), put_here]
  rw [put_past (f := "landing_places") (by decide +kernel), put_past (f := "landing_places") (by decide +kernel), put_past (f := "landing_places") (by decide +kernel), put_here]
  rw [put_past (f := "roads") (by decide +kernel), put_past (f := "roads") (by decide +kernel), put_past (f := "roads") (by decide +kernel), put_past (f := "roads") (by decide +kernel), put_here]
  rw [put_past (f := "news_told") (by decide +kernel), put_past (f := "news_told") (by decide +kernel), put_past (f := "news_told") (by decide +kernel), put_past (f := "news_told") (by decide +kernel), put_past (f := "news_told") (by decide +kernel), put_here]
  rfl
theorem putF_len {f : Str} {v : V} : ∀ fs : List (Str × V), (putF f v fs).length ≤ fs.length + 1
  | [] => Nat.le_refl _
  | (g, x) :: r => by
    by_cases h : g = f
    · subst h
      rw [put_here]
      show r.length + 1 ≤ r.length + 1 + 1
      omega
    · rw [put_past h]
      have := putF_len (f := f) (v := v) r
      show (putF f v r).length + 1 ≤ r.length + 1 + 1
      omega
/-- the chase at a: F is all else that is to stay (nothing of it is the chase's), I what of the chase's is never written to -/
structure ChaseAt (CC : Addr) (F I H : Hp) (a : Addr) (c : Chase) (dx lp rd nw : Addr) (ts ns : List Addr) : Prop where
  fr : Same F H
  im : Same I H
  dj : ∀ b o, I b = some o → F b = none
  fa : F a = none
  ia : I a = none
  frd : F rd = none
  ird : I rd = none
  fnw : F nw = none
  inw : I nw = none
  ne : rd ≠ nw
  obj : H a = some (.ins CC dx (cF c lp rd nw))
  rdl : H rd = some (.lst (ts.map V.ref))
  nwl : H nw = some (.lst (ns.map V.ref))
  lpl : I lp = some (.lst (natsV c.mays))
  roads : RoadsAt I ts c.roads
  news : NewsAt I ns c.news
def ChaseIs (CC : Addr) (F H : Hp) (a : Addr) (c : Chase) : Prop := ∃ (I : Hp) (dx lp rd nw : Addr) (ts ns : List Addr), ChaseAt CC F I H a c dx lp rd nw ts ns
theorem ChaseAt.same {CC : Addr} {F I H H' : Hp} {a : Addr} {c : Chase} {dx lp rd nw : Addr} {ts ns : List Addr} (h : ChaseAt CC F I H a c dx lp rd nw ts ns) (s : Same H H') : ChaseAt CC F I H' a c dx lp rd nw ts ns :=
  { h with fr := h.fr.trans s, im := h.im.trans s, obj := s _ _ h.obj, rdl := s _ _ h.rdl, nwl := s _ _ h.nwl }
theorem ChaseIs.same {CC : Addr} {F H H' : Hp} {a : Addr} {c : Chase} (h : ChaseIs CC F H a c) (s : Same H H') : ChaseIs CC F H' a c := by
  obtain ⟨I, dx, lp, rd, nw, ts, ns, h⟩ := h
  exact ⟨I, dx, lp, rd, nw, ts, ns, h.same s⟩
theorem ChaseIs.fr {CC : Addr} {F H : Hp} {a : Addr} {c : Chase} (h : ChaseIs CC F H a c) : Same F H := by
  obtain ⟨I, dx, lp, rd, nw, ts, ns, h⟩ := h
  exact h.fr
/-- something of the frame is written to -/
theorem ChaseIs.other {CC : Addr} {F H : Hp} {a : Addr} {c : Chase} (h : ChaseIs CC F H a c) {g : Addr} {o u : HO} (hg : F g = some o) : ChaseIs CC (upd F g u) (upd H g u) a c := by
  obtain ⟨I, dx, lp, rd, nw, ts, ns, h⟩ := h
  have ig : I g = none := by
    cases e : I g with
    | none => rfl
    | some x => rw [h.dj g x e] at hg; cases hg
  have ga : a ≠ g := (ne_of_none hg h.fa).symm
  have gr : rd ≠ g := (ne_of_none hg h.frd).symm
  have gn : nw ≠ g := (ne_of_none hg h.fnw).symm
  refine ⟨I, dx, lp, rd, nw, ts, ns, ?_⟩
  exact { h with
    fr := fun b x e => by
      by_cases hb : b = g
      · rw [hb, upd_same] at e ⊢; exact e
      · rw [upd_ne hb] at e ⊢; exact h.fr b x e
    im := same_over h.im ig _
    dj := fun b x e => by
      rw [upd_ne (ne_of_none e ig)]
      exact h.dj b x e
    fa := by rw [upd_ne ga]; exact h.fa
    frd := by rw [upd_ne gr]; exact h.frd
    fnw := by rw [upd_ne gn]; exact h.fnw
    obj := by rw [upd_ne ga]; exact h.obj
    rdl := by rw [upd_ne gr]; exact h.rdl
    nwl := by rw [upd_ne gn]; exact h.nwl }
/-- the frame made smaller -/
theorem ChaseIs.less {CC : Addr} {F F' H : Hp} {a : Addr} {c : Chase} (h : ChaseIs CC F H a c) (s : Same F' F) : ChaseIs CC F' H a c := by
  obtain ⟨I, dx, lp, rd, nw, ts, ns, h⟩ := h
  exact ⟨I, dx, lp, rd, nw, ts, ns, { h with fr := s.trans h.fr, dj := fun b o e => s.free (h.dj b o e), fa := s.free h.fa, frd := s.free h.frd, fnw := s.free h.fnw }⟩
/-! begin_anew -/
def spAnew (CC : Addr) : Sp := fun vs H Q _ => ∃ (a dx : Addr) (fs : List (Str × V)) (n st t : Nat) (F : Hp), vs = [.ref a, vN n, vN st, vN t] ∧ H a = some (.ins CC dx fs) ∧ (fs = [] ∨ ∃ c lp rd nw, fs = cF c lp rd nw) ∧ Same F H ∧ F a = none ∧ n ≤ 6 ∧
  ∀ H' : Hp, ChaseIs CC F H' a (begun n st t) → Q .non H'
section
variable {P : Program} {w : World} {K : PySem.W.Frag} {mg : Str → Option Value} {base : Heap} {CW CC : Addr}
theorem rgV_nats (n : Nat) : rgV 0 ((n : Nat) : Int) = natsV (List.range n) := by
  unfold rgV natsV
  have e : (((n : Nat) : Int) - 0).toNat = n := by omega
  rw [e]
  refine List.map_congr_left fun i _ => ?_
  show V.int (0 + ((i : Nat) : Int)) = _
  rw [Int.zero_add]
theorem scAnew : FnScope ["self", "places", "car", "landing"] ["self", "places", "car", "landing"] (defScope sAnew) := ⟨rfl, rfl, rfl, by decide +kernel, rfl, by decide +kernel, by decide +kernel⟩
theorem ok_anew {f : Addr} {fd : FuncData} (F : Fun K "begin_anew" "Chase.begin_anew" sAnew f fd) (T : Txt K mg CW CC) : FnOk P w K mg base CX0 1 f fd ["self", "places", "car", "landing"] (spAnew CC) := by
  refine F.ok scAnew (fun vs H Q E h => ?_) (fun cdv A outer s H vs Q E hr h => ?_)
  · obtain ⟨a, dx, fs, n, st, t, F, rfl, _⟩ := h
    rfl
  obtain ⟨a, dx, fs, n, st, t, F, rfl, ha, hfs, sF, Fa, h6, q⟩ := h
  refine ⟨_, pss_cons (ps_fld (pv 0) (pv 1) rfl) (pss_cons (ps_fld (pv 0) (pv 2) rfl) (pss_cons (ps_fld (pv 0) (pv 3) rfl)
    (pss_cons (ps_fld (pv 0) (pe_listRg rfl rfl T.list (prg_1 rfl T.range (pv 1))) rfl)
    (pss_cons (ps_fld (pv 0) (pe_lst pa_nil) rfl) (pss_one (ps_fld (pv 0) (pe_lst pa_nil) rfl)))))), ?_⟩
  have l0 : fs.length ≤ 6 := by
    rcases hfs with rfl | ⟨c, lp, rd, nw, rfl⟩
    · decide
    · show 6 ≤ 6; decide
  have l1 := putF_len (f := "places") (v := vN n) fs
  have l2 := putF_len (f := "car") (v := vN st) (putF "places" (vN n) fs)
  have l3 := putF_len (f := "landing") (v := vN t) (putF "car" (vN st) (putF "places" (vN n) fs))
  refine ⟨_, rfl, _, rfl, a, CC, dx, _, rfl, ha, T.clC, T.cPl, by omega, ?_⟩
  refine ⟨_, rfl, _, rfl, a, CC, dx, _, rfl, upd_same, T.clC, T.cCa, by omega, ?_⟩
  refine ⟨_, rfl, _, rfl, a, CC, dx, _, rfl, upd_same, T.clC, T.cLa, by omega, ?_⟩
  rw [upd_upd, upd_upd]
  generalize hF3 : putF "landing" (vN t) (putF "car" (vN st) (putF "places" (vN n) fs)) = fs3 at l3
  have s3 : Same F (upd H a (.ins CC dx fs3)) := same_over sF Fa _
  refine ⟨_, rfl, ((n : Nat) : Int), rfl, .of_le (by decide) (by omega) (by decide) (by omega), fun lp hlp => ?_⟩
  have nla : lp ≠ a := fun z => by rw [z, upd_same] at hlp; cases hlp
  rw [rgV_nats]
  have l4 := putF_len (f := "landing_places") (v := .ref lp) fs3
  refine ⟨_, rfl, a, CC, dx, _, rfl, by rw [upd_ne nla.symm, upd_same], T.clC, T.cLp, by omega, ?_⟩
  generalize hF4 : putF "landing_places" (.ref lp) fs3 = fs4 at l4
  refine ⟨(by show 0 ≤ sizeLine; decide), fun rd hrd => ?_⟩
  have nra : rd ≠ a := fun z => by rw [z, upd_same] at hrd; cases hrd
  rw [upd_ne nra] at hrd
  have nrl : rd ≠ lp := fun z => by rw [z, upd_same] at hrd; cases hrd
  rw [upd_ne nrl, upd_ne nra] at hrd
  have l5 := putF_len (f := "roads") (v := .ref rd) fs4
  refine ⟨_, rfl, a, CC, dx, _, rfl, by rw [upd_ne nra.symm, upd_same], T.clC, T.cRd, by omega, ?_⟩
  generalize hF5 : putF "roads" (.ref rd) fs4 = fs5 at l5
  refine ⟨(by show 0 ≤ sizeLine; decide), fun nw hnw => ?_⟩
  have nna : nw ≠ a := fun z => by rw [z, upd_same] at hnw; cases hnw
  rw [upd_ne nna] at hnw
  have nnr : nw ≠ rd := fun z => by rw [z, upd_same] at hnw; cases hnw
  rw [upd_ne nnr, upd_ne nna] at hnw
  have nnl : nw ≠ lp := fun z => by rw [z, upd_same] at hnw; cases hnw
  rw [upd_ne nnl, upd_ne nna] at hnw
  refine ⟨_, rfl, a, CC, dx, _, rfl, by rw [upd_ne nna.symm, upd_same], T.clC, T.cNt, by omega, ?_⟩
  have e6 : putF "news_told" (.ref nw) fs5 = cF (begun n st t) lp rd nw := by
    rw [← hF5, ← hF4, ← hF3]
    rcases hfs with rfl | ⟨c, lp', rd', nw', rfl⟩
    · exact anew_nil n st t lp rd nw
    · exact anew_cF c lp' rd' nw' n st t lp rd nw
  rw [e6]
  have hlp' : H lp = none := by rwa [upd_ne nla] at hlp
  refine q _ ⟨upd (fun _ => none) lp (.lst (natsV (List.range n))), dx, lp, rd, nw, [], [], ?_⟩
  exact {
    fr := same_over (same_over (same_over (same_over (same_over (same_over s3 (sF.free hlp') _) Fa _) (sF.free hrd) _) Fa _) (sF.free hnw) _) Fa _
    im := fun b o e => by
      by_cases hb : b = lp
      · subst hb
        rw [upd_same] at e
        rw [upd_ne nla, upd_ne nnl.symm, upd_ne nla, upd_ne nrl.symm, upd_ne nla, upd_same]
        exact e
      · rw [upd_ne hb] at e; cases e
    dj := fun b o e => by
      by_cases hb : b = lp
      · rw [hb]; exact sF.free hlp'
      · rw [upd_ne hb] at e; cases e
    fa := Fa
    ia := upd_ne nla.symm
    frd := sF.free hrd
    ird := upd_ne nrl
    fnw := sF.free hnw
    inw := upd_ne nnl
    ne := nnr.symm
    obj := upd_same
    rdl := by rw [upd_ne nra, upd_ne nnr.symm, upd_ne nra, upd_same]; rfl
    nwl := by rw [upd_ne nna, upd_same]; rfl
    lpl := by
      rw [upd_same]
      refine congrArg (fun z => some (HO.lst (natsV z))) ?_
      exact mays_all.symm
    roads := .nil
    news := .nil }
theorem scCInit : FnScope ["self"] ["self"] (defScope sCInit) := ⟨rfl, rfl, rfl, by decide +kernel, rfl, by decide +kernel, by decide +kernel⟩
def spCInit (CC : Addr) : Sp := fun vs H Q _ => ∃ (a dx : Addr) (F : Hp), vs = [.ref a] ∧ H a = some (.ins CC dx []) ∧ Same F H ∧ F a = none ∧
  ∀ H' : Hp, ChaseIs CC F H' a Si94.init → Q .non H'
theorem ok_cinit {f g : Addr} {fd gd : FuncData} (F : Fun K "__init__" "Chase.__init__" sCInit f fd) (T : Txt K mg CW CC)
    (G : FnOk P w K mg base CX0 1 g gd ["self", "places", "car", "landing"] (spAnew CC)) (bG : Binds K gd ["self", "places", "car", "landing"] []) (mG : Meth K CC "begin_anew" g) :
    FnOk P w K mg base CX0 2 f fd ["self"] (spCInit CC) := by
  refine F.ok scCInit (fun vs H Q E h => ?_) (fun cdv A outer s H vs Q E hr h => ?_)
  · obtain ⟨a, dx, F, rfl, _⟩ := h
    rfl
  obtain ⟨a, dx, F, rfl, ha, sF, Fa, q⟩ := h
  refine ⟨_, pss_one (ps_expr (pe_meth (pv 0) T.clC mG G hr bG .nil pass0 (pa_cons pe_int (pa_cons pe_int (pa_cons pe_int pa_nil))))), ?_⟩
  exact ⟨_, rfl, a, dx, _, rfl, ha, rfl, a, dx, [], 1, 0, 0, F, rfl, ha, .inl rfl, sF, Fa, by decide, q⟩
theorem scBegins : FnScope ["self", "places", "car", "landing"] ["self", "places", "car", "landing"] (defScope sBegins) := ⟨rfl, rfl, rfl, by decide +kernel, rfl, by decide +kernel, by decide +kernel⟩
def spBegins (CC : Addr) : Sp := fun vs H Q _ => ∃ (a : Addr) (c : Chase) (F : Hp) (n st t : Nat), vs = [.ref a, vN n, vN st, vN t] ∧ ChaseIs CC F H a c ∧
  ∀ H' : Hp, ChaseIs CC F H' a (Si94.step c (.begins n st t)).1 → Q (.int (Si94.step c (.begins n st t)).2.v) H'
theorem ok_begins {f g : Addr} {fd gd : FuncData} (F : Fun K "begins" "Chase.begins" sBegins f fd) (T : Txt K mg CW CC)
    (G : FnOk P w K mg base CX0 1 g gd ["self", "places", "car", "landing"] (spAnew CC)) (bG : Binds K gd ["self", "places", "car", "landing"] []) (mG : Meth K CC "begin_anew" g) :
    FnOk P w K mg base CX0 2 f fd ["self", "places", "car", "landing"] (spBegins CC) := by
  refine F.ok scBegins (fun vs H Q E h => ?_) (fun cdv A outer s H vs Q E hr h => ?_)
  · obtain ⟨a, c, F, n, st, t, rfl, _⟩ := h
    rfl
  obtain ⟨a, c, F, n, st, t, rfl, C, q⟩ := h
  obtain ⟨tP, gP⟩ := T.gMp
  obtain ⟨tL, gL⟩ := T.gLl
  refine ⟨_, pss_cons (ps_if (PW.pt (pw_or (pt_cmpR op_lt (pv 1) pe_int (nomark _)) (pw_or (pt_cmpR op_gt (pv 1) (pe_glob (v := .int 6) rfl gP ⟨_, rfl⟩) (nomark _)) (pw_or (pt_cmpR op_ge (pv 2) (pv 1) (nomark _)) (pw_or1 (pt_cmpR op_gt (pv 3) (pe_glob (v := .int 1000) rfl gL ⟨_, rfl⟩) (nomark _)))))))
      (pss_one (ps_ret (pe_un un_neg pe_int))) pss_nil)
    (pss_cons (ps_expr (pe_meth (pv 0) T.clC mG G hr bG .nil pass0 (pa_cons (pv 1) (pa_cons (pv 2) (pa_cons (pv 3) pa_nil)))))
    (pss_one (ps_ret pe_int))), ?_⟩
  by_cases bad : n < 1 ∨ Si94.PLACES < n ∨ n ≤ st ∨ Si94.LONG < t
  · have e : Si94.step c (.begins n st t) = (c, Si94.ok (-1)) := by rw [Si94.step, if_pos bad]
    rw [e] at q
    have fin : Q (.int (-1)) H := q H C
    refine ⟨_, rfl, _, _, rfl, rfl, _, rfl, ?_⟩
    refine ite2 (fun z => ⟨_, rfl, fin⟩) (fun z1 => ?_)
    refine ⟨_, rfl, _, _, rfl, rfl, _, rfl, ?_⟩
    refine ite2 (fun z => ⟨_, rfl, fin⟩) (fun z2 => ?_)
    refine ⟨_, rfl, _, rfl, _, _, rfl, rfl, _, rfl, ?_⟩
    refine ite2 (fun z => ⟨_, rfl, fin⟩) (fun z3 => ?_)
    refine ⟨_, rfl, _, _, rfl, rfl, _, rfl, ?_⟩
    refine ite2 (fun z => ⟨_, rfl, fin⟩) (fun z4 => ?_)
    exfalso
    have z1 := of_decide_eq_false (Bool.eq_false_iff.mpr z1)
    have z2 := of_decide_eq_false (Bool.eq_false_iff.mpr z2)
    have z3 := of_decide_eq_false (Bool.eq_false_iff.mpr z3)
    have z4 := of_decide_eq_false (Bool.eq_false_iff.mpr z4)
    have p1 : Si94.PLACES = 6 := rfl
    have p2 : Si94.LONG = 1000 := rfl
    omega
  · have e : Si94.step c (.begins n st t) = (begun n st t, Si94.ok 0) := by rw [Si94.step, if_neg bad]; rfl
    rw [e] at q
    have p1 : Si94.PLACES = 6 := rfl
    have p2 : Si94.LONG = 1000 := rfl
    simp only [not_or, Nat.not_lt, Nat.not_le] at bad
    obtain ⟨b1, b2, b3, b4⟩ := bad
    have d1 : decide (((n : Nat) : Int) < 1) = false := decide_eq_false (by omega)
    have d2 : decide ((6 : Int) < ((n : Nat) : Int)) = false := decide_eq_false (by omega)
    have d3 : decide (((n : Nat) : Int) ≤ ((st : Nat) : Int)) = false := decide_eq_false (by omega)
    have d4 : decide ((1000 : Int) < ((t : Nat) : Int)) = false := decide_eq_false (by omega)
    refine ⟨_, rfl, _, _, rfl, rfl, _, rfl, ?_⟩
    rw [d1]
    refine ⟨_, rfl, _, _, rfl, rfl, _, rfl, ?_⟩
    rw [d2]
    refine ⟨_, rfl, _, rfl, _, _, rfl, rfl, _, rfl, ?_⟩
    rw [d3]
    refine ⟨_, rfl, _, _, rfl, rfl, _, rfl, ?_⟩
    rw [d4]
    obtain ⟨I, dx, lp, rd, nw, ts, ns, C⟩ := C
    refine ⟨_, rfl, a, dx, _, rfl, C.obj, cF_none (by decide +kernel), _, rfl, _, rfl, _, rfl, ?_⟩
    exact ⟨a, dx, _, n, st, t, F, rfl, C.obj, .inr ⟨c, lp, rd, nw, rfl⟩, C.fr, C.fa, by omega, fun H' C' => q H' C'⟩
end
end Rb

namespace Rb
open PySem PySem.Spec PyProof.Rows L2
open Si94 (Chase News)
section
variable {CC : Addr} {F I H H1 : Hp} {a : Addr} {c : Chase} {dx lp rd nw : Addr} {ts ns : List Addr}
/-- something new becomes the chase's, never to be written to -/
theorem ChaseAt.keep (h : ChaseAt CC F I H a c dx lp rd nw ts ns) (s : Same H H1) {t : Addr} {o : HO} (ht : H t = none) (e : H1 t = some o) : ChaseAt CC F (upd I t o) H1 a c dx lp rd nw ts ns :=
  { h.same s with
    im := fun b x q => by
      by_cases hb : b = t
      · rw [hb, upd_same] at q
        rw [hb, e]; exact q
      · rw [upd_ne hb] at q
        exact s _ _ (h.im b x q)
    dj := fun b x q => by
      by_cases hb : b = t
      · rw [hb]; exact h.fr.free ht
      · rw [upd_ne hb] at q
        exact h.dj b x q
    ia := by rw [upd_ne (ne_of_none h.obj ht)]; exact h.ia
    ird := by rw [upd_ne (ne_of_none h.rdl ht)]; exact h.ird
    inw := by rw [upd_ne (ne_of_none h.nwl ht)]; exact h.inw
    lpl := same_new (h.im.free ht) o _ _ h.lpl
    roads := h.roads.same (same_new (h.im.free ht) o)
    news := h.news.same (same_new (h.im.free ht) o) }
theorem ChaseAt.putRoads (h : ChaseAt CC F I H a c dx lp rd nw ts ns) {ts' : List Addr} {rs : List (Nat × Nat × Nat)} (r : RoadsAt I ts' rs) : ChaseAt CC F I (upd H rd (.lst (ts'.map V.ref))) a { c with roads := rs } dx lp rd nw ts' ns :=
  { h with
    fr := same_over h.fr h.frd _
    im := same_over h.im h.ird _
    obj := by rw [upd_ne (ne_of h.obj h.rdl (by intro z; cases z))]; exact h.obj
    rdl := upd_same
    nwl := by rw [upd_ne h.ne.symm]; exact h.nwl
    roads := r }
theorem ChaseAt.putNews (h : ChaseAt CC F I H a c dx lp rd nw ts ns) {ns' : List Addr} {xs : List News} (r : NewsAt I ns' xs) : ChaseAt CC F I (upd H nw (.lst (ns'.map V.ref))) a { c with news := xs } dx lp rd nw ts ns' :=
  { h with
    fr := same_over h.fr h.fnw _
    im := same_over h.im h.inw _
    obj := by rw [upd_ne (ne_of h.obj h.nwl (by intro z; cases z))]; exact h.obj
    rdl := by rw [upd_ne h.ne]; exact h.rdl
    nwl := upd_same
    news := r }
theorem ChaseAt.putMay (h : ChaseAt CC F I H a c dx lp rd nw ts ns) {q : Addr} {s : Nat} (r : I q = some (.lst (natsV ({ c with may := s } : Chase).mays))) :
    ChaseAt CC F I (upd H a (.ins CC dx (putF "landing_places" (.ref q) (cF c lp rd nw)))) a { c with may := s } dx q rd nw ts ns :=
  { h with
    fr := same_over h.fr h.fa _
    im := same_over h.im h.ia _
    obj := by rw [upd_same, cF_putLp q s]
    rdl := by rw [upd_ne (ne_of h.rdl h.obj (by intro z; cases z))]; exact h.rdl
    nwl := by rw [upd_ne (ne_of h.nwl h.obj (by intro z; cases z))]; exact h.nwl
    lpl := r }
end
def spRoad (CC : Addr) : Sp := fun vs H Q _ => ∃ (a : Addr) (c : Chase) (F : Hp) (x y m : Nat), vs = [.ref a, vN x, vN y, vN m] ∧ ChaseIs CC F H a c ∧ Okc c ∧
  ∀ H' : Hp, ChaseIs CC F H' a (Si94.step c (.road x y m)).1 → Q (.int (Si94.step c (.road x y m)).2.v) H'
def spMay (CC : Addr) : Sp := fun vs H Q _ => ∃ (a : Addr) (c : Chase) (F : Hp) (x : Nat), vs = [.ref a, vN x] ∧ ChaseIs CC F H a c ∧ Okc c ∧
  ∀ H' : Hp, ChaseIs CC F H' a (Si94.step c (.may x)).1 → Q (.int (Si94.step c (.may x)).2.v) H'
def spNews (CC : Addr) : Sp := fun vs H Q _ => ∃ (a pa : Addr) (c : Chase) (F : Hp) (m : Nat) (p : List Nat), vs = [.ref a, vN m, .ref pa] ∧ ChaseIs CC F H a c ∧ Okc c ∧ H pa = some (.lst (natsV p)) ∧
  ∀ H' : Hp, ChaseIs CC F H' a (Si94.step c (.news m p)).1 → Q (.int (Si94.step c (.news m p)).2.v) H'
def spLast (CC : Addr) : Sp := fun vs H Q _ => ∃ (a : Addr) (c : Chase) (F : Hp), vs = [.ref a] ∧ ChaseIs CC F H a c ∧ Q (vN c.lastNews) H
section
variable {P : Program} {w : World} {K : PySem.W.Frag} {mg : Str → Option Value} {base : Heap} {CW CC : Addr}
theorem dec_no {a b : Nat} (h : ¬ a = b) : decide (V.int ((a : Nat) : Int) = V.int ((b : Nat) : Int)) = false := by rw [dec_nat]; exact decide_eq_false h
theorem dec_yes {a b : Nat} (h : a = b) : decide (V.int ((a : Nat) : Int) = V.int ((b : Nat) : Int)) = true := by rw [dec_nat]; exact decide_eq_true h
theorem of_dec {a b : Nat} (h : decide (V.int ((a : Nat) : Int) = V.int ((b : Nat) : Int)) = true) : a = b := by rw [dec_nat] at h; exact of_decide_eq_true h
theorem of_dec_not {a b : Nat} (h : ¬ decide (V.int ((a : Nat) : Int) = V.int ((b : Nat) : Int)) = true) : ¬ a = b := by rw [dec_nat] at h; exact of_decide_eq_false (Bool.eq_false_iff.mpr h)
theorem scRoad : FnScope ["self", "place", "other", "minutes"] ["self", "place", "other", "minutes"] (defScope sRoad) := ⟨rfl, rfl, rfl, by decide +kernel, rfl, by decide +kernel, by decide +kernel⟩
theorem ok_road {f : Addr} {fd : FuncData} (F : Fun K "road" "Chase.road" sRoad f fd) (T : Txt K mg CW CC) : FnOk P w K mg base CX0 1 f fd ["self", "place", "other", "minutes"] (spRoad CC) := by
  refine F.ok scRoad (fun vs H Q E h => ?_) (fun cdv A outer s H vs Q E hr h => ?_)
  · obtain ⟨a, c, F, x, y, m, rfl, _⟩ := h
    rfl
  obtain ⟨a, c, F, x, y, m, rfl, C, ok, q⟩ := h
  obtain ⟨I, dx, lp, rd, nw, ts, ns, C⟩ := C
  obtain ⟨tR, gR⟩ := T.gMr
  obtain ⟨tL, gL⟩ := T.gLr
  refine ⟨_, pss_cons (ps_if (PW.pt (pw_or (pt_cmpR op_ge (pv 1) (pe_fld (pv 0) rfl) (nomark _)) (pw_or1 (pt_cmpR op_ge (pv 2) (pe_fld (pv 0) rfl) (nomark _))))) (pss_one (ps_ret (pe_un un_neg pe_int))) pss_nil)
    (pss_cons (ps_if (pt_cmpR op_eq (pv 1) (pv 2) (nomark _)) (pss_one (ps_ret (pe_un un_neg pe_int))) pss_nil)
    (pss_cons (ps_if (PW.pt (pw_or (pt_cmpR op_lt (pv 3) pe_int (nomark _)) (pw_or1 (pt_cmpR op_gt (pv 3) (pe_glob (v := .int 1000) rfl gL ⟨_, rfl⟩) (nomark _))))) (pss_one (ps_ret (pe_un un_neg pe_int))) pss_nil)
    (pss_cons (ps_if (pt_cmpR op_eq (pe_callB call_len_seq (by rfl) T.len PySem.boot_len (pa_cons (pe_fld (pv 0) rfl) pa_nil)) (pe_glob (v := .int 12) rfl gR ⟨_, rfl⟩) (nomark _)) (pss_one (ps_ret (pe_un un_neg pe_int))) pss_nil)
    (pss_cons (ps_expr (pe_bm PySem.F.plainAttrs_list PySem.F.slot_list_append PySem.F.type_list_append mt_append (pe_fld (pv 0) rfl) (pa_cons (pe_tup (pa_cons (pv 1) (pa_cons (pv 2) (pa_cons (pv 3) pa_nil)))) pa_nil)))
    (pss_one (ps_ret (pe_callB call_len_seq (by rfl) T.len PySem.boot_len (pa_cons (pe_fld (pv 0) rfl) pa_nil)))))))), ?_⟩
  have hl : (ts.map V.ref).length = c.roads.length := by rw [List.length_map, paired_len C.roads]
  have r12 := ok.r12
  have p1 : Si94.ROADS = 12 := rfl
  have p2 : Si94.LONG = 1000 := rfl
  have CI : ChaseIs CC F H a c := ⟨I, dx, lp, rd, nw, ts, ns, C⟩
  by_cases b1 : c.places ≤ x ∨ c.places ≤ y
  · have e : Si94.step c (.road x y m) = (c, Si94.ok (-2)) := by rw [Si94.step, if_pos b1]
    rw [e] at q
    have fin : Q (.int (-2)) H := q H CI
    refine ⟨_, rfl, _, rfl, a, CC, dx, _, _, rfl, C.obj, T.clC, T.cPl, cF_places, _, _, rfl, rfl, _, rfl, ?_⟩
    refine ite2 (fun z => ⟨_, rfl, fin⟩) (fun z1 => ?_)
    refine ⟨_, rfl, _, rfl, a, CC, dx, _, _, rfl, C.obj, T.clC, T.cPl, cF_places, _, _, rfl, rfl, _, rfl, ?_⟩
    refine ite2 (fun z => ⟨_, rfl, fin⟩) (fun z2 => ?_)
    exfalso
    have z1 := of_decide_eq_false (Bool.eq_false_iff.mpr z1)
    have z2 := of_decide_eq_false (Bool.eq_false_iff.mpr z2)
    omega
  have d1 : decide (((c.places : Nat) : Int) ≤ ((x : Nat) : Int)) = false := decide_eq_false (by omega)
  have d2 : decide (((c.places : Nat) : Int) ≤ ((y : Nat) : Int)) = false := decide_eq_false (by omega)
  refine ⟨_, rfl, _, rfl, a, CC, dx, _, _, rfl, C.obj, T.clC, T.cPl, cF_places, _, _, rfl, rfl, _, rfl, ?_⟩
  rw [d1]
  refine ⟨_, rfl, _, rfl, a, CC, dx, _, _, rfl, C.obj, T.clC, T.cPl, cF_places, _, _, rfl, rfl, _, rfl, ?_⟩
  rw [d2]
  by_cases b2 : x = y
  · have e : Si94.step c (.road x y m) = (c, Si94.ok (-4)) := by rw [Si94.step, if_neg b1, if_pos b2]
    rw [e] at q
    refine ⟨_, rfl, _, rfl, rfl, _, rfl, ?_⟩
    rw [dec_yes b2]
    exact ⟨_, rfl, q H CI⟩
  refine ⟨_, rfl, _, rfl, rfl, _, rfl, ?_⟩
  rw [dec_no b2]
  by_cases b3 : m < 1 ∨ Si94.LONG < m
  · have e : Si94.step c (.road x y m) = (c, Si94.ok (-1)) := by rw [Si94.step, if_neg b1, if_neg b2, if_pos b3]
    rw [e] at q
    have fin : Q (.int (-1)) H := q H CI
    refine ⟨_, rfl, _, _, rfl, rfl, _, rfl, ?_⟩
    refine ite2 (fun z => ⟨_, rfl, fin⟩) (fun z1 => ?_)
    refine ⟨_, rfl, _, _, rfl, rfl, _, rfl, ?_⟩
    refine ite2 (fun z => ⟨_, rfl, fin⟩) (fun z2 => ?_)
    exfalso
    have z1 := of_decide_eq_false (Bool.eq_false_iff.mpr z1)
    have z2 := of_decide_eq_false (Bool.eq_false_iff.mpr z2)
    omega
  have d3 : decide (((m : Nat) : Int) < 1) = false := decide_eq_false (by omega)
  have d4 : decide ((1000 : Int) < ((m : Nat) : Int)) = false := decide_eq_false (by omega)
  refine ⟨_, rfl, _, _, rfl, rfl, _, rfl, ?_⟩
  rw [d3]
  refine ⟨_, rfl, _, _, rfl, rfl, _, rfl, ?_⟩
  rw [d4]
  refine ⟨_, rfl, a, CC, dx, _, _, rfl, C.obj, T.clC, T.cRd, cF_roads, rd, _, rfl, .inl (.of C.rdl), rfl, _, rfl, ?_⟩
  rw [hl]
  by_cases b4 : Si94.ROADS ≤ c.roads.length
  · have e : Si94.step c (.road x y m) = (c, Si94.ok (-5)) := by rw [Si94.step, if_neg b1, if_neg b2, if_neg b3, if_pos b4]
    rw [e] at q
    rw [show decide (V.int ((c.roads.length : Nat) : Int) = V.int 12) = true from dec_yes (b := 12) (by omega)]
    exact ⟨_, rfl, q H CI⟩
  rw [show decide (V.int ((c.roads.length : Nat) : Int) = V.int 12) = false from dec_no (b := 12) (by omega)]
  have e : Si94.step c (.road x y m) = ({ c with roads := c.roads ++ [(x, y, m)] }, Si94.ok ((c.roads.length : Nat) + 1)) := by rw [Si94.step, if_neg b1, if_neg b2, if_neg b3, if_neg b4]
  rw [e] at q
  refine ⟨_, rfl, a, CC, dx, _, _, rfl, C.obj, T.clC, T.cRd, cF_roads, .inl ⟨rfl, _, .of C.rdl⟩, _, rfl, _, rfl, _, rfl, (by show 3 ≤ sizeLine; decide), fun t ht => ?_⟩
  have C1 : ChaseAt CC F (upd I t (.tup [vN x, vN y, vN m])) (upd H t (.tup [vN x, vN y, vN m])) a c dx lp rd nw ts ns := C.keep (same_new ht _) ht upd_same
  have R : RoadsAt (upd I t (.tup [vN x, vN y, vN m])) (ts ++ [t]) (c.roads ++ [(x, y, m)]) := Paired.snoc C1.roads upd_same
  have C2 := C1.putRoads R
  rw [List.map_append] at C2
  refine ⟨rd, _, _, rfl, rfl, C1.rdl, by rw [hl]; exact small1000 (by omega), ?_⟩
  refine ⟨_, rfl, a, CC, dx, _, _, rfl, C2.obj, T.clC, T.cRd, cF_roads, rd, _, rfl, .inl (.of C2.rdl), ?_⟩
  rw [List.length_map, List.length_append, ← List.length_map (f := V.ref), hl]
  exact q _ ⟨_, dx, lp, rd, nw, _, ns, C2⟩
theorem scMay : FnScope ["self", "places", "place"] ["self", "places"] (defScope sMay) := ⟨rfl, rfl, rfl, by decide +kernel, rfl, by decide +kernel, by decide +kernel⟩
theorem ok_may {f : Addr} {fd : FuncData} (F : Fun K "may" "Chase.may" sMay f fd) (T : Txt K mg CW CC) : FnOk P w K mg base CX0 1 f fd ["self", "places"] (spMay CC) := by
  refine F.ok scMay (fun vs H Q E h => ?_) (fun cdv A outer s H vs Q E hr h => ?_)
  · obtain ⟨a, c, F, x, rfl, _⟩ := h
    rfl
  obtain ⟨a, c, F, x, rfl, C, ok, q⟩ := h
  obtain ⟨I, dx, lp, rd, nw, ts, ns, C⟩ := C
  have nd := scMay.nd
  refine ⟨_, pss_cons (ps_if (PW.pt (pw_or (pt_cmpR op_eq (pv 1) pe_int (nomark _)) (pw_or1 (pt_cmpR op_gt (pe_op op_shrN (pv 1) (pe_fld (pv 0) rfl)) pe_int (nomark _))))) (pss_one (ps_ret (pe_un un_neg pe_int))) pss_nil)
    (pss_cons (ps_fld (pv 0) (pe_lc (own := [("place", 2)]) (g := gName 2) (te := tVar 2) (by rfl) nd (pi_range1 rfl T.range (pa_cons (pe_fld (pv 0) rfl) pa_nil)) (blkOk_by (own := [("place", 2)]) (N := ["self", "places", "place"]) (sc := defScope sMay) (by decide +kernel))
          (fun _ _ _ _ _ => pg_name (i := 2) nd rfl (Or.inl rfl)) (fun _ _ _ _ _ => pts_one (pt_cmpR op_eq (pe_op op_odd (pe_op op_shrN (pv 1) (pv 2)) pe_int) pe_int (nomark _)))
          (fun _ _ _ _ _ => pv 2)) rfl)
    (pss_one (ps_ret pe_int))), ?_⟩
  have CI : ChaseIs CC F H a c := ⟨I, dx, lp, rd, nw, ts, ns, C⟩
  have cast : ∀ k : Nat, ((x : Nat) : Int) / 2 ^ k = ((x / 2 ^ k : Nat) : Int) := fun k => by
    rw [Int.natCast_ediv, Int.natCast_pow]; rfl
  have pos : (0 : Int) < ((x / 2 ^ c.places : Nat) : Int) ↔ 2 ^ c.places ≤ x := by
    have h1 : 0 < x / 2 ^ c.places ↔ 2 ^ c.places ≤ x := by
      rw [Nat.div_pos_iff]
      exact ⟨fun z => z.2, fun z => ⟨Nat.two_pow_pos _, z⟩⟩
    rw [← h1]; omega
  by_cases bad : x < 1 ∨ 2 ^ c.places ≤ x
  · have e : Si94.step c (.may x) = (c, Si94.ok (-1)) := by rw [Si94.step, if_pos bad]
    rw [e] at q
    have fin : Q (.int (-1)) H := q H CI
    refine ⟨_, rfl, rfl, _, rfl, ?_⟩
    refine ite2 (fun z => ⟨_, rfl, fin⟩) (fun z1 => ?_)
    have z1 := of_dec_not (b := 0) z1
    refine ⟨_, rfl, _, rfl, a, CC, dx, _, _, rfl, C.obj, T.clC, T.cPl, cF_places, _, _, rfl, rfl, _, _, rfl, rfl, _, rfl, ?_⟩
    rw [cast, decide_eq_true (pos.mpr (by omega))]
    exact ⟨_, rfl, fin⟩
  have e : Si94.step c (.may x) = ({ c with may := x }, Si94.ok 0) := by rw [Si94.step, if_neg bad]
  rw [e] at q
  have nz : ¬ x = 0 := by omega
  have np : ¬ 2 ^ c.places ≤ x := by omega
  refine ⟨_, rfl, rfl, _, rfl, ?_⟩
  rw [show decide (V.int ((x : Nat) : Int) = V.int 0) = false from dec_no (b := 0) nz]
  refine ⟨_, rfl, _, rfl, a, CC, dx, _, _, rfl, C.obj, T.clC, T.cPl, cF_places, _, _, rfl, rfl, _, _, rfl, rfl, _, rfl, ?_⟩
  rw [cast, decide_eq_false (fun z => np (pos.mp z))]
  have n6 := ok.n6
  refine ⟨_, rfl, a, CC, dx, _, _, rfl, C.obj, T.clC, T.cPl, cF_places, ((c.places : Nat) : Int), rfl, by omega, by omega, fun d hd => ?_⟩
  refine lc_range (lo := 0) (n := c.places) (fun i H' => Same H H' ∧ H' d = some (.lst (natsV ((List.range i).filter fun v => x.testBit v)))) ⟨same_new hd _, upd_same⟩ ?_ ?_
  · rintro i H1 hi ⟨s1, e1⟩
    have ei : (0 : Int) + ((i : Nat) : Int) = ((i : Nat) : Int) := by omega
    rw [ei]
    refine ⟨rfl, ?_⟩
    refine ⟨_, rfl, _, rfl, _, _, rfl, rfl, x / 2 ^ i, by rw [cast], rfl, rfl, _, rfl, ?_⟩
    have tb : x.testBit i = decide (x / 2 ^ i % 2 = 1) := Nat.testBit_eq_decide_div_mod_eq
    rw [show decide (V.int ((x / 2 ^ i % 2 : Nat) : Int) = V.int 1) = x.testBit i by rw [tb]; exact dec_nat (b := 1)]
    have hlen : (natsV ((List.range i).filter fun v => x.testBit v)).length < sizeLine := by
      rw [natsV_length]
      refine small1000 ?_
      have := List.length_filter_le (fun v => x.testBit v) (List.range i)
      rw [List.length_range] at this
      omega
    cases tbi : x.testBit i with
    | true =>
      refine ⟨_, rfl, _, e1, hlen, same_over s1 hd _, ?_⟩
      rw [upd_same, List.range_succ, List.filter_append, ← natsV_snoc]
      have : [i].filter (fun v => x.testBit v) = [i] := by simp [tbi]
      rw [this]
    | false =>
      refine ⟨s1, ?_⟩
      rw [e1, List.range_succ, List.filter_append]
      have : [i].filter (fun v => x.testBit v) = [] := by simp [tbi]
      rw [this, List.append_nil]
  · rintro H1 ⟨s1, e1⟩
    have C1 := C.keep s1 hd e1
    have C2 := C1.putMay (q := d) (s := x) upd_same
    refine ⟨_, rfl, a, CC, dx, _, rfl, C1.obj, T.clC, T.cLp, (by show 6 < 1000; decide), ?_⟩
    exact q _ ⟨_, dx, d, rd, nw, ts, ns, C2⟩
theorem scLast : FnScope ["self"] ["self"] (defScope sLast) := ⟨rfl, rfl, rfl, by decide +kernel, rfl, by decide +kernel, by decide +kernel⟩
theorem ok_last {f : Addr} {fd : FuncData} (F : Fun K "last_news_minute" "Chase.last_news_minute" sLast f fd) (T : Txt K mg CW CC) : FnOk P w K mg base CX0 1 f fd ["self"] (spLast CC) := by
  refine F.ok scLast (fun vs H Q E h => ?_) (fun cdv A outer s H vs Q E hr h => ?_)
  · obtain ⟨a, c, F, rfl, _⟩ := h
    rfl
  obtain ⟨a, c, F, rfl, ⟨I, dx, lp, rd, nw, ts, ns, C⟩, q⟩ := h
  refine ⟨_, pss_cons (ps_if (pt_cmpR op_eq (pe_callB call_len_seq (by rfl) T.len PySem.boot_len (pa_cons (pe_fld (pv 0) rfl) pa_nil)) pe_int (nomark _)) (pss_one (ps_ret pe_int)) pss_nil)
    (pss_one (ps_ret (pe_ix ix_tup (pe_ix ix_list (pe_fld (pv 0) rfl) (pe_un un_neg pe_int) (fun _ _ => rfl)) pe_int (fun _ _ => rfl)))), ?_⟩
  have hl : (ns.map V.ref).length = c.news.length := by rw [List.length_map, paired_len C.news]
  have hl2 := paired_len C.news
  refine ⟨_, rfl, a, CC, dx, _, _, rfl, C.obj, T.clC, T.cNt, cF_news, nw, _, rfl, .inl (.of C.nwl), rfl, _, rfl, ?_⟩
  rw [hl]
  by_cases z : c.news.length = 0
  · rw [show decide (V.int ((c.news.length : Nat) : Int) = V.int 0) = true from dec_yes (b := 0) z]
    have e : c.lastNews = 0 := by
      unfold Chase.lastNews
      rw [List.length_eq_zero_iff.mp z]; rfl
    rw [e] at q
    exact q
  · rw [show decide (V.int ((c.news.length : Nat) : Int) = V.int 0) = false from dec_no (b := 0) z]
    rcases List.eq_nil_or_concat ns with e | ⟨ns', t, e⟩
    · rw [e] at hl2
      exact absurd hl2.symm z
    · have et : ns[ns.length - 1]? = some t := by
        rw [e, List.concat_eq_append, List.length_append, List.length_singleton, Nat.add_sub_cancel]
        simp
      obtain ⟨y, ey, p, e2, e3⟩ := paired_get C.news et
      have el : c.lastNews = y.minute := by
        unfold Chase.lastNews
        rw [List.getLast?_eq_getElem?, ← hl2, ey]; rfl
      rw [el] at q
      have e4 : ns.map V.ref = ns'.map V.ref ++ [.ref t] := by rw [e, List.concat_eq_append, List.map_append]; rfl
      refine ⟨_, rfl, a, CC, dx, _, _, rfl, C.obj, T.clC, T.cNt, cF_news, _, rfl, nw, _, _, _, rfl, rfl, .of C.nwl, by rw [e4]; exact atI_last _ _, t, _, _, _, rfl, rfl, .inl (.inl (C.im _ _ e2)), rfl, q⟩
theorem scNews : FnScope ["self", "minute", "parts"] ["self", "minute", "parts"] (defScope sNews) := ⟨rfl, rfl, rfl, by decide +kernel, rfl, by decide +kernel, by decide +kernel⟩
theorem ok_news {f g : Addr} {fd gd : FuncData} (F : Fun K "news" "Chase.news" sNews f fd) (T : Txt K mg CW CC)
    (G : FnOk P w K mg base CX0 1 g gd ["self"] (spLast CC)) (bG : Binds K gd ["self"] []) (mG : Meth K CC "last_news_minute" g) :
    FnOk P w K mg base CX0 2 f fd ["self", "minute", "parts"] (spNews CC) := by
  refine F.ok scNews (fun vs H Q E h => ?_) (fun cdv A outer s H vs Q E hr h => ?_)
  · obtain ⟨a, pa, c, F, m, p, rfl, _⟩ := h
    rfl
  obtain ⟨a, pa, c, F, m, p, rfl, C, ok, hp, q⟩ := h
  have CI : ChaseIs CC F H a c := C
  obtain ⟨I, dx, lp, rd, nw, ts, ns, C⟩ := C
  obtain ⟨tN, gN⟩ := T.gMn
  refine ⟨_, pss_cons (ps_if (PW.pt (pw_or (pt_cmpR op_ne (pe_callB call_len_seq (by rfl) T.len PySem.boot_len (pa_cons (pv 2) pa_nil)) (pe_fld (pv 0) rfl) (nomark _))
        (pw_or (pt_cmpR op_lt (pv 1) (pe_meth0 (pv 0) T.clC mG G hr bG .nil pass0) (nomark _)) (pw_or1 (pt_cmpR op_gt (pv 1) (pe_fld (pv 0) rfl) (nomark _)))))) (pss_one (ps_ret (pe_un un_neg pe_int))) pss_nil)
    (pss_cons (ps_if (pt_cmpR op_eq (pe_callB call_len_seq (by rfl) T.len PySem.boot_len (pa_cons (pe_fld (pv 0) rfl) pa_nil)) (pe_glob (v := .int 3) rfl gN ⟨_, rfl⟩) (nomark _)) (pss_one (ps_ret (pe_un un_neg pe_int))) pss_nil)
    (pss_cons (ps_expr (pe_bm PySem.F.plainAttrs_list PySem.F.slot_list_append PySem.F.type_list_append mt_append (pe_fld (pv 0) rfl)
        (pa_cons (pe_tup (pa_cons (pv 1) (pa_cons (pe_callTy call_list_of (by rfl) T.list (by decide +kernel) (pa_cons (pv 2) pa_nil)) pa_nil))) pa_nil)))
    (pss_one (ps_ret (pe_callB call_len_seq (by rfl) T.len PySem.boot_len (pa_cons (pe_fld (pv 0) rfl) pa_nil)))))), ?_⟩
  have hl : (ns.map V.ref).length = c.news.length := by rw [List.length_map, paired_len C.news]
  have n3 := ok.n3
  have p1 : Si94.NEWS = 3 := rfl
  have hpl : (natsV p).length = p.length := natsV_length p
  by_cases bad : p.length ≠ c.places ∨ m < c.lastNews ∨ c.landing < m
  · have e : Si94.step c (.news m p) = (c, Si94.ok (-1)) := by rw [Si94.step, if_pos bad]
    rw [e] at q
    have fin : Q (.int (-1)) H := q H CI
    refine ⟨_, rfl, pa, _, rfl, .inl (.of hp), _, rfl, a, CC, dx, _, _, rfl, C.obj, T.clC, T.cPl, cF_places, rfl, _, rfl, ?_⟩
    rw [hpl]
    refine ite2 (fun z => ⟨_, rfl, fin⟩) (fun z1 => ?_)
    refine ⟨_, rfl, _, rfl, a, dx, _, rfl, C.obj, cF_none (by decide +kernel), ?_⟩
    refine ⟨a, c, F, rfl, CI, _, _, rfl, rfl, _, rfl, ?_⟩
    refine ite2 (fun z => ⟨_, rfl, fin⟩) (fun z2 => ?_)
    refine ⟨_, rfl, _, rfl, a, CC, dx, _, _, rfl, C.obj, T.clC, T.cLa, cF_landing, _, _, rfl, rfl, _, rfl, ?_⟩
    refine ite2 (fun z => ⟨_, rfl, fin⟩) (fun z3 => ?_)
    exfalso
    have z1 : p.length = c.places := by
      refine of_dec ?_
      cases hd : decide (V.int ((p.length : Nat) : Int) = V.int ((c.places : Nat) : Int)) with
      | true => rfl
      | false => rw [hd] at z1; exact absurd rfl z1
    have z2 := of_decide_eq_false (Bool.eq_false_iff.mpr z2)
    have z3 := of_decide_eq_false (Bool.eq_false_iff.mpr z3)
    omega
  have b1 : p.length = c.places := Decidable.byContradiction fun z => bad (.inl z)
  have d2 : decide (((m : Nat) : Int) < ((c.lastNews : Nat) : Int)) = false := decide_eq_false (by omega)
  have d3 : decide (((c.landing : Nat) : Int) < ((m : Nat) : Int)) = false := decide_eq_false (by omega)
  refine ⟨_, rfl, pa, _, rfl, .inl (.of hp), _, rfl, a, CC, dx, _, _, rfl, C.obj, T.clC, T.cPl, cF_places, rfl, _, rfl, ?_⟩
  rw [hpl, show decide (V.int ((p.length : Nat) : Int) = V.int ((c.places : Nat) : Int)) = true from dec_yes b1]
  refine ⟨_, rfl, _, rfl, a, dx, _, rfl, C.obj, cF_none (by decide +kernel), ?_⟩
  refine ⟨a, c, F, rfl, CI, _, _, rfl, rfl, _, rfl, ?_⟩
  rw [d2]
  refine ⟨_, rfl, _, rfl, a, CC, dx, _, _, rfl, C.obj, T.clC, T.cLa, cF_landing, _, _, rfl, rfl, _, rfl, ?_⟩
  rw [d3]
  refine ⟨_, rfl, a, CC, dx, _, _, rfl, C.obj, T.clC, T.cNt, cF_news, nw, _, rfl, .inl (.of C.nwl), rfl, _, rfl, ?_⟩
  rw [hl]
  by_cases b4 : Si94.NEWS ≤ c.news.length
  · have e : Si94.step c (.news m p) = (c, Si94.ok (-5)) := by rw [Si94.step, if_neg bad, if_pos b4]
    rw [e] at q
    rw [show decide (V.int ((c.news.length : Nat) : Int) = V.int 3) = true from dec_yes (b := 3) (by omega)]
    exact ⟨_, rfl, q H CI⟩
  rw [show decide (V.int ((c.news.length : Nat) : Int) = V.int 3) = false from dec_no (b := 3) (by omega)]
  have e : Si94.step c (.news m p) = ({ c with news := c.news ++ [⟨m, p⟩] }, Si94.ok ((c.news.length : Nat) + 1)) := by rw [Si94.step, if_neg bad, if_neg b4]
  rw [e] at q
  refine ⟨_, rfl, a, CC, dx, _, _, rfl, C.obj, T.clC, T.cNt, cF_news, .inl ⟨rfl, _, .of C.nwl⟩, _, rfl, _, rfl, pa, _, rfl, .inl (.of hp), fun l hl' => ?_⟩
  refine ⟨(by show 2 ≤ sizeLine; decide), fun t ht => ?_⟩
  have C1 := C.keep (same_new hl' (.lst (natsV p))) hl' upd_same
  have C2 := C1.keep (same_new ht (.tup [vN m, .ref l])) ht upd_same
  have R : NewsAt (upd (upd I l (.lst (natsV p))) t (.tup [vN m, .ref l])) (ns ++ [t]) (c.news ++ [⟨m, p⟩]) := by
    refine Paired.snoc C2.news ⟨l, upd_same, ?_⟩
    have nlt : l ≠ t := fun z => by rw [← z, upd_same] at ht; cases ht
    rw [upd_ne nlt, upd_same]
  have C3 := C2.putNews R
  rw [List.map_append] at C3
  refine ⟨nw, _, _, rfl, rfl, C2.nwl, by rw [hl]; exact small1000 (by omega), ?_⟩
  refine ⟨_, rfl, a, CC, dx, _, _, rfl, C3.obj, T.clC, T.cNt, cF_news, nw, _, rfl, .inl (.of C3.nwl), ?_⟩
  rw [List.length_map, List.length_append, ← List.length_map (f := V.ref), hl]
  exact q _ ⟨_, dx, lp, rd, nw, ts, _, C3⟩
end
end Rb

namespace Rb
open PySem PySem.Spec PyProof.Rows L2
open Si94 (Chase News)
/-! ### there is a table of shortest drives -/
theorem exists_straight {n : Nat} {roads : List (Nat × Nat × Nat)} (ok : RoadsOk n roads) : ∀ i, ∃ D, IsStraight n (roads.take i) D
  | 0 => ⟨fun a b => if a = b then 0 else NO, by rw [List.take_zero]; exact IsStraight.none fun _ _ _ _ => rfl⟩
  | i + 1 => by
    obtain ⟨D, h⟩ := exists_straight ok i
    cases e : roads[i]? with
    | none =>
      have l := List.getElem?_eq_none_iff.mp e
      exact ⟨D, by rw [List.take_of_length_le (by omega), ← List.take_of_length_le l]; exact h⟩
    | some r =>
      obtain ⟨p, o, m⟩ := r
      obtain ⟨hp, ho, hne, _⟩ := ok p o m (List.mem_of_getElem? e)
      exact ⟨_, by rw [take_more e]; exact h.more hp ho hne (fun _ _ _ _ => rfl) fun u x z q => ok u x z (List.mem_of_mem_take q)⟩
theorem exists_fw {n : Nat} {roads : List (Nat × Nat × Nat)} (ok : RoadsOk n roads) : ∀ k, k ≤ n → ∃ D, FwInv n roads k D
  | 0, _ => by
    obtain ⟨D, h⟩ := exists_straight ok roads.length
    rw [List.take_length] at h
    exact ⟨D, h.fw ok⟩
  | k + 1, hk => by
    obtain ⟨D, h⟩ := exists_fw ok k (by omega)
    exact ⟨_, h.next ok hk fun _ _ _ _ => rfl⟩
theorem exists_dist {c : Chase} (h : Okc c) : ∃ D, IsDist c.places c.roads D := by
  obtain ⟨D, d⟩ := exists_fw h.roads c.places (Nat.le_refl _)
  exact ⟨D, d.done h.n6⟩
/-- no way can be: somewhere where it may land there's no drive to -/
def noWay (c : Chase) : Bool := c.mays.any fun v => decide ((Si94.step c (.far c.start v)).2.v < 0)
theorem noWay_yes {c : Chase} (h : Okc c) {D : Nat → Nat → Nat} (d : IsDist c.places c.roads D) (e : noWay c = true) : ∃ v, v ∈ c.mays ∧ ¬ D c.start v < NO := by
  obtain ⟨v, hv, z⟩ := List.any_eq_true.mp e
  refine ⟨v, hv, fun l => ?_⟩
  have z := of_decide_eq_true z
  have hNO : NO = 1000000 := rfl
  rw [far_told h d h.st (mays_lt hv), if_neg (by omega)] at z
  have z : ((D c.start v : Nat) : Int) < 0 := z
  omega
theorem noWay_no {c : Chase} (h : Okc c) {D : Nat → Nat → Nat} (d : IsDist c.places c.roads D) (e : noWay c = false) : ∀ v ∈ c.mays, D c.start v < NO := fun v hv => by
  have z := List.any_eq_false.mp e v hv
  have z : ¬ (Si94.step c (.far c.start v)).2.v < 0 := fun q => z (decide_eq_true q)
  have hNO : NO = 1000000 := rfl
  have l := d.le c.start v h.st (mays_lt hv)
  rw [far_told h d h.st (mays_lt hv)] at z
  by_cases q : D c.start v = NO
  · rw [if_pos q] at z
    exact absurd (show (-6 : Int) < 0 by decide) z
  · omega
/-- the least at the worst without news, of some places -/
def lw (c : Chase) (S : List Nat) : Nat := (c.silent.value c.silent.ways [] 0 c.start S).getD 0
theorem lw_is {c : Chase} {D : Nat → Nat → Nat} {S : List Nat} (h : Okc c) (d : IsDist c.places c.roads D) (f : Fit c.silent D [] 0 c.start S) : low (bestL c.places c.landing D [] 0 c.start S) = lw c S := by
  unfold lw low
  rw [value_is (c := c.silent) d h.roads h.land [] 0 c.start S f]
  rfl
theorem fit_silent {c : Chase} {D : Nat → Nat → Nat} {S : List Nat} (h : Okc c) (hs : ∀ v ∈ S, v ∈ c.mays) (hr : ∀ v ∈ c.mays, D c.start v < NO) : Fit c.silent D [] 0 c.start S := ⟨h.st, fun v hv => mays_lt (hs v hv), fun v hv => hr v (hs v hv), Nat.zero_le _⟩
theorem told_no {c : Chase} (h : Okc c) (e : noWay c = true) : (Si94.step c .worst).2 = Si94.ok (-6) ∧ (Si94.step c .unknown).2 = Si94.ok (-6) ∧ (Si94.step c .known).2 = Si94.ok (-6) := by
  obtain ⟨D, d⟩ := exists_dist h
  obtain ⟨v, hv, hr⟩ := noWay_yes h d e
  exact ⟨worst_no h d hv hr, unknown_no h d hv hr, known_no h d hv hr⟩
theorem told_unknown {c : Chase} (h : Okc c) (e : noWay c = false) : (Si94.step c .unknown).2 = Si94.ok ((lw c c.mays : Nat) : Int) := by
  obtain ⟨D, d⟩ := exists_dist h
  have hr := noWay_no h d e
  rw [unknown_yes h d hr, lw_is h d (fit_silent h (fun _ q => q) hr)]
theorem told_known {c : Chase} (h : Okc c) (e : noWay c = false) : (Si94.step c .known).2 = Si94.ok ((maxOf (c.mays.map fun v => lw c [v]) : Nat) : Int) := by
  obtain ⟨D, d⟩ := exists_dist h
  have hr := noWay_no h d e
  rw [known_yes h d hr]
  have : (c.mays.map fun v => low (bestL c.places c.landing D [] 0 c.start [v])) = c.mays.map fun v => lw c [v] := List.map_congr_left fun v hv => lw_is h d (fit_silent h (fun x q => by rw [List.mem_singleton.mp q]; exact hv) hr)
  rw [this]
/-! ### the promises -/
def spFar (CC : Addr) : Sp := fun vs H Q _ => ∃ (a : Addr) (c : Chase) (F : Hp) (x y : Nat), vs = [.ref a, vN x, vN y] ∧ ChaseIs CC F H a c ∧ Okc c ∧
  ∀ H' : Hp, Same H H' → Q (.int (Si94.step c (.far x y)).2.v) H'
def spWays (CW CC : Addr) : Sp := fun vs H Q _ => ∃ (a nl : Addr) (c : Chase) (F : Hp) (xs : List News) (us : List Addr), vs = [.ref a, .ref nl] ∧ ChaseIs CC F H a c ∧ Okc c ∧ H nl = some (.lst (us.map V.ref)) ∧ NewsAt H us xs ∧
  ∀ (H' : Hp) (x dx d : Addr) (rs : List Addr) (D : Nat → Nat → Nat), Same H H' → WaysAt CW H' x { c with news := xs } D dx d nl rs us → IsDist c.places c.roads D → Q (.ref x) H'
def spLeast (CC : Addr) : Sp := fun vs H Q _ => ∃ (a l : Addr) (c : Chase) (F : Hp) (S : List Nat), vs = [.ref a, .ref l] ∧ ChaseIs CC F H a c ∧ Okc c ∧ H l = some (.lst (natsV S)) ∧ S ≠ [] ∧ S.length ≤ 6 ∧ (∀ v ∈ S, v ∈ c.mays) ∧ noWay c = false ∧
  ∀ H' : Hp, Same H H' → Q (vN (lw c S)) H'
def spNoWay (CC : Addr) : Sp := fun vs H Q _ => ∃ (a : Addr) (c : Chase) (F : Hp), vs = [.ref a] ∧ ChaseIs CC F H a c ∧ Okc c ∧
  ∀ H' : Hp, Same H H' → Q (.bl (noWay c)) H'
def spWorst (CC : Addr) : Sp := fun vs H Q _ => ∃ (a : Addr) (c : Chase) (F : Hp), vs = [.ref a] ∧ ChaseIs CC F H a c ∧ Okc c ∧
  ∀ (H' : Hp) (r : Addr), Same H H' → H r = none → H' r = some (.lst (((Si94.step c .worst).2.v :: (Si94.step c .worst).2.l).map V.int)) → Q (.ref r) H'
def spOne (CC : Addr) (q : Si94.Call) : Sp := fun vs H Q _ => ∃ (a : Addr) (c : Chase) (F : Hp), vs = [.ref a] ∧ ChaseIs CC F H a c ∧ Okc c ∧
  ∀ H' : Hp, Same H H' → Q (.int (Si94.step c q).2.v) H'
theorem mays_len {c : Chase} (h : Okc c) : c.mays.length ≤ 6 := by
  have := List.length_filter_le (fun v => c.may.testBit v) (List.range c.places)
  rw [List.length_range] at this
  exact Nat.le_trans this h.n6
section
variable {P : Program} {w : World} {K : PySem.W.Frag} {mg : Str → Option Value} {base : Heap} {CW CC : Addr}
theorem scFar : FnScope ["self", "place", "other", "minutes"] ["self", "place", "other"] (defScope sFar) := ⟨rfl, rfl, rfl, by decide +kernel, rfl, by decide +kernel, by decide +kernel⟩
theorem ok_far {f g : Addr} {fd gd : FuncData} (F : Fun K "far" "Chase.far" sFar f fd) (T : Txt K mg CW CC)
    (G : FnOk P w K mg base CX0 2 g gd ["places", "roads"] (spTable IsDist)) (bG : Binds K gd ["places", "roads"] []) (kG : PySem.W.keepIn K (.ref g) = true) (mG : mg "shortest_drives" = some (.ref g)) :
    FnOk P w K mg base CX0 3 f fd ["self", "place", "other"] (spFar CC) := by
  refine F.ok scFar (fun vs H Q E h => ?_) (fun cdv A outer s H vs Q E hr h => ?_)
  · obtain ⟨a, c, F, x, y, rfl, _⟩ := h
    rfl
  obtain ⟨a, c, F, x, y, rfl, ⟨I, dx, lp, rd, nw, ts, ns, C⟩, ok, q⟩ := h
  obtain ⟨tN, gN⟩ := T.gNo
  have nd := scFar.nd
  refine ⟨_, pss_cons (ps_if (PW.pt (pw_or (pt_cmpR op_ge (pv 1) (pe_fld (pv 0) rfl) (nomark _)) (pw_or1 (pt_cmpR op_ge (pv 2) (pe_fld (pv 0) rfl) (nomark _))))) (pss_one (ps_ret (pe_un un_neg pe_int))) pss_nil)
    (pss_cons (ps_set (i := 3) nd rfl (Or.inl rfl) (pe_ix ix_list (pe_ix ix_list (pe_call G hr rfl mG kG bG .nil pass0 (pa_cons (pe_fld (pv 0) rfl) (pa_cons (pe_fld (pv 0) rfl) pa_nil))) (pv 1) (fun _ _ => rfl)) (pv 2) (fun _ _ => rfl)))
    (pss_cons (ps_if (pt_cmpR op_eq (pv 3) (pe_glob (v := .int 1000000) rfl gN ⟨_, rfl⟩) (nomark _)) (pss_one (ps_ret (pe_un un_neg pe_int))) pss_nil)
    (pss_one (ps_ret (pv 3))))), ?_⟩
  by_cases b1 : c.places ≤ x ∨ c.places ≤ y
  · have e : Si94.step c (.far x y) = (c, Si94.ok (-2)) := by rw [Si94.step, if_pos b1]
    rw [e] at q
    have fin : Q (.int (-2)) H := q H (Same.refl H)
    refine ⟨_, rfl, _, rfl, a, CC, dx, _, _, rfl, C.obj, T.clC, T.cPl, cF_places, _, _, rfl, rfl, _, rfl, ?_⟩
    refine ite2 (fun z => ⟨_, rfl, fin⟩) (fun z1 => ?_)
    refine ⟨_, rfl, _, rfl, a, CC, dx, _, _, rfl, C.obj, T.clC, T.cPl, cF_places, _, _, rfl, rfl, _, rfl, ?_⟩
    refine ite2 (fun z => ⟨_, rfl, fin⟩) (fun z2 => ?_)
    exfalso
    have z1 := of_decide_eq_false (Bool.eq_false_iff.mpr z1)
    have z2 := of_decide_eq_false (Bool.eq_false_iff.mpr z2)
    omega
  have d1 : decide (((c.places : Nat) : Int) ≤ ((x : Nat) : Int)) = false := decide_eq_false (by omega)
  have d2 : decide (((c.places : Nat) : Int) ≤ ((y : Nat) : Int)) = false := decide_eq_false (by omega)
  have hx : x < c.places := by omega
  have hy : y < c.places := by omega
  refine ⟨_, rfl, _, rfl, a, CC, dx, _, _, rfl, C.obj, T.clC, T.cPl, cF_places, _, _, rfl, rfl, _, rfl, ?_⟩
  rw [d1]
  refine ⟨_, rfl, _, rfl, a, CC, dx, _, _, rfl, C.obj, T.clC, T.cPl, cF_places, _, _, rfl, rfl, _, rfl, ?_⟩
  rw [d2]
  have tl : ts.length ≤ 12 := by rw [paired_len C.roads]; exact ok.r12
  refine ⟨_, rfl, a, CC, dx, _, _, rfl, C.obj, T.clC, T.cPl, cF_places, _, rfl, a, CC, dx, _, _, rfl, C.obj, T.clC, T.cRd, cF_roads, ?_⟩
  refine ⟨c.places, rd, ts, c.roads, rfl, ok.n6, C.rdl, C.roads.same C.im, ok.roads, tl, fun H1 d rs D M dist => ?_⟩
  obtain ⟨r, hr1, hr2, hr3⟩ := M.row hx
  rw [far_told ok dist hx hy] at q
  refine ⟨_, rfl, d, _, _, _, rfl, rfl, .of M.mat.at_, atI_nat hr2, _, rfl, r, _, _, _, rfl, rfl, .of hr3, atI_nat (rowV_get _ hy), ?_⟩
  refine ⟨_, rfl, rfl, _, rfl, ?_⟩
  by_cases z : D x y = NO
  · rw [show decide (V.int ((D x y : Nat) : Int) = V.int 1000000) = true from dec_yes (b := 1000000) z]
    rw [if_pos z] at q
    exact ⟨_, rfl, q H1 M.same⟩
  · rw [show decide (V.int ((D x y : Nat) : Int) = V.int 1000000) = false from dec_no (b := 1000000) z]
    rw [if_neg z] at q
    exact ⟨_, rfl, q H1 M.same⟩
theorem scWays : FnScope ["self", "news_told"] ["self", "news_told"] (defScope sWays) := ⟨rfl, rfl, rfl, by decide +kernel, rfl, by decide +kernel, by decide +kernel⟩
theorem ok_ways {f g i : Addr} {fd gd idd : FuncData} (F : Fun K "ways_with" "Chase.ways_with" sWays f fd) (T : Txt K mg CW CC)
    (G : FnOk P w K mg base CX0 2 g gd ["places", "roads"] (spTable IsDist)) (bG : Binds K gd ["places", "roads"] []) (kG : PySem.W.keepIn K (.ref g) = true) (mG : mg "shortest_drives" = some (.ref g))
    (M : Mk K CW i) (GI : FnOk P w K mg base CX0 1 i idd ["self", "drives", "landing", "news_told"] (spWInit CW)) (bI : Binds K idd ["self", "drives", "landing", "news_told"] []) :
    FnOk P w K mg base CX0 3 f fd ["self", "news_told"] (spWays CW CC) := by
  refine F.ok scWays (fun vs H Q E h => ?_) (fun cdv A outer s H vs Q E hr h => ?_)
  · obtain ⟨a, nl, c, F, xs, us, rfl, _⟩ := h
    rfl
  obtain ⟨a, nl, c, F, xs, us, rfl, ⟨I, dx, lp, rd, nw, ts, ns, C⟩, ok, hnl, hus, q⟩ := h
  refine ⟨_, pss_one (ps_ret (pe_make M GI hr rfl T.gW bI .nil pass0 (pa_cons (pe_call G hr rfl mG kG bG .nil pass0 (pa_cons (pe_fld (pv 0) rfl) (pa_cons (pe_fld (pv 0) rfl) pa_nil))) (pa_cons (pe_fld (pv 0) rfl) (pa_cons (pv 1) pa_nil))))), ?_⟩
  have tl : ts.length ≤ 12 := by rw [paired_len C.roads]; exact ok.r12
  refine ⟨_, rfl, a, CC, dx, _, _, rfl, C.obj, T.clC, T.cPl, cF_places, _, rfl, a, CC, dx, _, _, rfl, C.obj, T.clC, T.cRd, cF_roads, ?_⟩
  refine ⟨c.places, rd, ts, c.roads, rfl, ok.n6, C.rdl, C.roads.same C.im, ok.roads, tl, fun H1 d rs D M1 dist => ?_⟩
  have C1 := C.same M1.same
  refine ⟨_, rfl, a, CC, dx, _, _, rfl, C1.obj, T.clC, T.cLa, cF_landing, _, rfl, fun x dxw nx ndx ne => ?_⟩
  refine ⟨x, dxw, d, nl, c.landing, rfl, upd_same, fun H2 e2 k2 => ⟨rfl, ?_⟩⟩
  have s2 : Same H1 H2 := Same.made nx ndx k2
  exact q H2 x dxw d rs D (M1.same.trans s2) ⟨e2, M1.mat.same s2, (M1.same.trans s2) _ _ hnl, hus.same (M1.same.trans s2)⟩ dist
theorem scLeast : FnScope ["self", "landing_places"] ["self", "landing_places"] (defScope sLeast) := ⟨rfl, rfl, rfl, by decide +kernel, rfl, by decide +kernel, by decide +kernel⟩
theorem ok_least {f g b : Addr} {fd gd bd : FuncData} (F : Fun K "least_without_news" "Chase.least_without_news" sLeast f fd) (T : Txt K mg CW CC)
    (G : FnOk P w K mg base CX0 3 g gd ["self", "news_told"] (spWays CW CC)) (bG : Binds K gd ["self", "news_told"] []) (mG : Meth K CC "ways_with" g)
    (GB : FnOk P w K mg base CX0 10 b bd pBest (spBest CW 4)) (bB : Binds K bd pBest []) (mB : Meth K CW "best" b) :
    FnOk P w K mg base CX0 11 f fd ["self", "landing_places"] (spLeast CC) := by
  refine F.ok scLeast (fun vs H Q E h => ?_) (fun cdv A outer s H vs Q E hr h => ?_)
  · obtain ⟨a, l, c, F, S, rfl, _⟩ := h
    rfl
  obtain ⟨a, l, c, F, S, rfl, ⟨I, dx, lp, rd, nw, ts, ns, C⟩, ok, hl, hne, h6, hS, hw, q⟩ := h
  have hr3 : Room 3 _ := hr.mono (by decide)
  refine ⟨_, pss_one (ps_ret (pe_ix ix_list (pe_meth (pe_meth (pv 0) T.clC mG G hr3 bG .nil pass0 (pa_cons (pe_lst pa_nil) pa_nil)) T.clW mB GB hr bB .nil pass0 (pa_cons (pe_fld (pv 0) rfl) (pa_cons pe_int (pa_cons pe_int (pa_cons (pv 1) pa_nil))))) pe_int (fun _ _ => rfl))), ?_⟩
  refine ⟨_, rfl, a, dx, _, rfl, C.obj, cF_none (by decide +kernel), (by show 0 ≤ sizeLine; decide), fun e he => ?_⟩
  have s0 : Same H (upd H e (.lst [])) := same_new he _
  have C0 := C.same s0
  refine ⟨a, e, c, F, [], [], rfl, ⟨I, dx, lp, rd, nw, ts, ns, C0⟩, ok, upd_same, .nil, fun H1 x dxw d rs D s1 W dist => ?_⟩
  have C1 := C0.same s1
  have f : Fit c.silent D [] 0 c.start S := fit_silent ok hS (noWay_no ok dist hw)
  refine ⟨x, dxw, _, rfl, W.obj, wF_best, _, rfl, a, CC, dx, _, _, rfl, C1.obj, T.clC, T.cCa, cF_car, _, rfl, ?_⟩
  refine ⟨x, dxw, d, e, l, c.silent, D, rs, [], 0, 0, c.start, S, rfl, W, okc_silent ok, dist, s1 _ _ (s0 _ _ hl), hne, h6, Nat.le_refl 0, (by show 0 + 1 ≤ 0 + 4; decide), f, fun H2 r y s2 nr e2 e3 => ?_⟩
  have e3 : (bestL c.places c.landing D [] 0 c.start S).foldl pick none = some y := e3
  refine ⟨r, _, _, _, rfl, rfl, .of e2, rfl, ?_⟩
  have z := q H2 (s0.trans (s1.trans s2))
  rw [← lw_is ok dist f, (low_of e3).1] at z
  exact z
abbrev nNoWay : List Str := ["self", "place"]
theorem scNoWay : FnScope nNoWay ["self"] (defScope sNoWay) := ⟨rfl, rfl, rfl, by decide +kernel, rfl, by decide +kernel, by decide +kernel⟩
theorem ok_noway {f g : Addr} {fd gd : FuncData} (F : Fun K "no_way_can_be" "Chase.no_way_can_be" sNoWay f fd) (T : Txt K mg CW CC)
    (G : FnOk P w K mg base CX0 3 g gd ["self", "place", "other"] (spFar CC)) (bG : Binds K gd ["self", "place", "other"] []) (mG : Meth K CC "far" g) :
    FnOk P w K mg base CX0 4 f fd ["self"] (spNoWay CC) := by
  refine F.ok scNoWay (fun vs H Q E h => ?_) (fun cdv A outer s H vs Q E hr h => ?_)
  · obtain ⟨a, c, F, rfl, _⟩ := h
    rfl
  obtain ⟨a, c, F, rfl, ⟨I, dx, lp, rd, nw, ts, ns, C⟩, ok, q⟩ := h
  have nd := scNoWay.nd
  refine ⟨_, pss_one (ps_ret (pe_callB (cr_any rfl) (by rfl) T.any (by decide +kernel) (pa_cons
      (pe_lc (own := [("place", 1)]) (g := gName 1) (tt := tYes) (te := tOp (rI0 fun i j => .bl (decide (i < j))) (tMeth CC "far" (spFar CC) [] E0 (tVar 0) (tCons (tFld K (tVar 0) "car") (tCons (tVar 1) tNil))) (tC (.int 0))) (by rfl) nd (pi_list (pe_fld (pv 0) rfl))
        (blkOk_by (own := [("place", 1)]) (N := nNoWay) (sc := defScope sNoWay) (by decide +kernel))
        (fun _ _ _ _ _ => pg_name (i := 1) nd rfl (Or.inl rfl)) (fun _ _ _ _ _ => pts_nil)
        (fun _ _ _ _ _ => pe_cmpR op_lt (pe_meth (pv 0) T.clC mG G hr bG .nil pass0 (pa_cons (pe_fld (pv 0) rfl) (pa_cons (pv 1) pa_nil))) pe_int (nomark _))) pa_nil))), ?_⟩
  refine ⟨_, rfl, a, CC, dx, _, _, rfl, C.obj, T.clC, T.cLp, cF_lp, lp, rfl, ⟨_, .of (C.im _ _ C.lpl)⟩, fun D hD => ?_⟩
  refine lc_list (K := K) (a := lp) (xs := natsV c.mays) (fun i H' => Same H H' ∧ H' D = some (.lst (((c.mays.take i).map fun v => decide ((Si94.step c (.far c.start v)).2.v < 0)).map V.bl))) ⟨same_new hD _, upd_same⟩ (fun i H' _ ⟨s, _⟩ => .of (s _ _ (C.im _ _ C.lpl))) ?_ ?_
  · rintro i y H1 hi ⟨s1, e1⟩
    obtain ⟨v, hv, rfl⟩ := natsV_got hi
    have C1 := C.same s1
    refine ⟨rfl, ?_⟩
    refine ⟨_, rfl, a, dx, _, rfl, C1.obj, cF_none (by decide +kernel), _, rfl, a, CC, dx, _, _, rfl, C1.obj, T.clC, T.cCa, cF_car, _, rfl, ?_⟩
    refine ⟨a, c, F, c.start, v, rfl, ⟨I, dx, lp, rd, nw, ts, ns, C1⟩, ok, fun H2 s2 => ?_⟩
    refine ⟨_, _, rfl, rfl, _, s2 _ _ e1, ?_, same_over (s1.trans s2) hD _, ?_⟩
    · rw [List.length_map, List.length_map, List.length_take]
      have := mays_len ok
      exact small1000 (by omega)
    · rw [upd_same, take_more hv, List.map_append, List.map_append]; rfl
  · rintro H1 ⟨s1, e1⟩
    rw [natsV_length, List.take_length] at e1
    refine ⟨D, _, rfl, .of e1, ?_⟩
    have : ((c.mays.map fun v => decide ((Si94.step c (.far c.start v)).2.v < 0)).any id) = noWay c := by
      unfold noWay
      rw [List.any_map]; rfl
    rw [this]
    exact q H1 s1
theorem scWorst : FnScope ["self"] ["self"] (defScope sWorst) := ⟨rfl, rfl, rfl, by decide +kernel, rfl, by decide +kernel, by decide +kernel⟩
theorem ok_worst {f n g b : Addr} {fd nd gd bd : FuncData} (F : Fun K "worst" "Chase.worst" sWorst f fd) (T : Txt K mg CW CC)
    (GN : FnOk P w K mg base CX0 4 n nd ["self"] (spNoWay CC)) (bN : Binds K nd ["self"] []) (mN : Meth K CC "no_way_can_be" n)
    (G : FnOk P w K mg base CX0 3 g gd ["self", "news_told"] (spWays CW CC)) (bG : Binds K gd ["self", "news_told"] []) (mG : Meth K CC "ways_with" g)
    (GB : FnOk P w K mg base CX0 10 b bd pBest (spBest CW 4)) (bB : Binds K bd pBest []) (mB : Meth K CW "best" b) :
    FnOk P w K mg base CX0 11 f fd ["self"] (spWorst CC) := by
  refine F.ok scWorst (fun vs H Q E h => ?_) (fun cdv A outer s H vs Q E hr h => ?_)
  · obtain ⟨a, c, F, rfl, _⟩ := h
    rfl
  obtain ⟨a, c, F, rfl, ⟨I, dx, lp, rd, nw, ts, ns, C⟩, ok, q⟩ := h
  have hr3 : Room 3 _ := hr.mono (by decide)
  have hr4 : Room 4 _ := hr.mono (by decide)
  refine ⟨_, pss_cons (ps_if (pt_val (pe_meth0 (pv 0) T.clC mN GN hr4 bN .nil pass0)) (pss_one (ps_ret (pe_lst (pa_cons (pe_un un_neg pe_int) pa_nil)))) pss_nil)
    (pss_one (ps_ret (pe_meth (pe_meth (pv 0) T.clC mG G hr3 bG .nil pass0 (pa_cons (pe_fld (pv 0) rfl) pa_nil)) T.clW mB GB hr bB .nil pass0 (pa_cons (pe_fld (pv 0) rfl) (pa_cons pe_int (pa_cons pe_int (pa_cons (pe_fld (pv 0) rfl) pa_nil))))))), ?_⟩
  refine ⟨_, rfl, a, dx, _, rfl, C.obj, cF_none (by decide +kernel), ?_⟩
  refine ⟨a, c, F, rfl, ⟨I, dx, lp, rd, nw, ts, ns, C⟩, ok, fun H1 s1 => ⟨_, rfl, ?_⟩⟩
  have C1 := C.same s1
  cases hw : noWay c with
  | true =>
    rw [(told_no ok hw).1] at q
    exact ⟨_, rfl, (by show 1 ≤ sizeLine; decide), fun r hr' => q _ r (s1.trans (same_new hr' _)) (s1.free hr') upd_same⟩
  | false =>
    refine ⟨_, rfl, a, dx, _, rfl, C1.obj, cF_none (by decide +kernel), _, rfl, a, CC, dx, _, _, rfl, C1.obj, T.clC, T.cNt, cF_news, ?_⟩
    refine ⟨a, nw, c, F, c.news, ns, rfl, ⟨I, dx, lp, rd, nw, ts, ns, C1⟩, ok, C1.nwl, C1.news.same C1.im, fun H2 x dxw d rs D s2 W dist => ?_⟩
    have W : WaysAt CW H2 x c D dxw d nw rs ns := W
    have C2 := C1.same s2
    have hw' := noWay_no ok dist hw
    have f := fit_of ok hw'
    have n3 := ok.n3
    refine ⟨x, dxw, _, rfl, W.obj, wF_best, _, rfl, a, CC, dx, _, _, rfl, C2.obj, T.clC, T.cCa, cF_car, _, rfl, a, CC, dx, _, _, rfl, C2.obj, T.clC, T.cLp, cF_lp, ?_⟩
    refine ⟨x, dxw, d, nw, lp, c, D, rs, ns, 0, 0, c.start, c.mays, rfl, W, ok, dist, C2.im _ _ C2.lpl, mays_ne ok, mays_len ok, Nat.zero_le _, by omega, f, fun H3 r y s3 nr e3 e4 => ?_⟩
    obtain ⟨y', e5, e6⟩ := worst_yes ok dist hw'
    have e4 : (bestL c.places c.landing D c.news 0 c.start c.mays).foldl pick none = some y := e4
    rw [e4] at e5
    obtain rfl := Option.some.inj e5
    rw [e6] at q
    exact q H3 r (s1.trans (s2.trans s3)) ((s1.trans s2).free nr) e3
theorem scUnknown : FnScope ["self"] ["self"] (defScope sUnknown) := ⟨rfl, rfl, rfl, by decide +kernel, rfl, by decide +kernel, by decide +kernel⟩
theorem ok_unknown {f n g : Addr} {fd nd gd : FuncData} (F : Fun K "unknown" "Chase.unknown" sUnknown f fd) (T : Txt K mg CW CC)
    (GN : FnOk P w K mg base CX0 4 n nd ["self"] (spNoWay CC)) (bN : Binds K nd ["self"] []) (mN : Meth K CC "no_way_can_be" n)
    (G : FnOk P w K mg base CX0 11 g gd ["self", "landing_places"] (spLeast CC)) (bG : Binds K gd ["self", "landing_places"] []) (mG : Meth K CC "least_without_news" g) :
    FnOk P w K mg base CX0 12 f fd ["self"] (spOne CC .unknown) := by
  refine F.ok scUnknown (fun vs H Q E h => ?_) (fun cdv A outer s H vs Q E hr h => ?_)
  · obtain ⟨a, c, F, rfl, _⟩ := h
    rfl
  obtain ⟨a, c, F, rfl, ⟨I, dx, lp, rd, nw, ts, ns, C⟩, ok, q⟩ := h
  have hr4 : Room 4 _ := hr.mono (by decide)
  refine ⟨_, pss_cons (ps_if (pt_val (pe_meth0 (pv 0) T.clC mN GN hr4 bN .nil pass0)) (pss_one (ps_ret (pe_un un_neg pe_int))) pss_nil)
    (pss_one (ps_ret (pe_meth (pv 0) T.clC mG G hr bG .nil pass0 (pa_cons (pe_fld (pv 0) rfl) pa_nil)))), ?_⟩
  refine ⟨_, rfl, a, dx, _, rfl, C.obj, cF_none (by decide +kernel), ?_⟩
  refine ⟨a, c, F, rfl, ⟨I, dx, lp, rd, nw, ts, ns, C⟩, ok, fun H1 s1 => ⟨_, rfl, ?_⟩⟩
  have C1 := C.same s1
  cases hw : noWay c with
  | true =>
    rw [(told_no ok hw).2.1] at q
    exact ⟨_, rfl, q H1 s1⟩
  | false =>
    rw [told_unknown ok hw] at q
    refine ⟨_, rfl, a, dx, _, rfl, C1.obj, cF_none (by decide +kernel), _, rfl, a, CC, dx, _, _, rfl, C1.obj, T.clC, T.cLp, cF_lp, ?_⟩
    exact ⟨a, lp, c, F, c.mays, rfl, ⟨I, dx, lp, rd, nw, ts, ns, C1⟩, ok, C1.im _ _ C1.lpl, mays_ne ok, mays_len ok, fun _ z => z, hw, fun H2 s2 => q H2 (s1.trans s2)⟩
abbrev nKnown : List Str := ["self", "place"]
theorem scKnown : FnScope nKnown ["self"] (defScope sKnown) := ⟨rfl, rfl, rfl, by decide +kernel, rfl, by decide +kernel, by decide +kernel⟩
theorem ok_known {f n g : Addr} {fd nd gd : FuncData} (F : Fun K "known" "Chase.known" sKnown f fd) (T : Txt K mg CW CC)
    (GN : FnOk P w K mg base CX0 4 n nd ["self"] (spNoWay CC)) (bN : Binds K nd ["self"] []) (mN : Meth K CC "no_way_can_be" n)
    (G : FnOk P w K mg base CX0 11 g gd ["self", "landing_places"] (spLeast CC)) (bG : Binds K gd ["self", "landing_places"] []) (mG : Meth K CC "least_without_news" g) :
    FnOk P w K mg base CX0 12 f fd ["self"] (spOne CC .known) := by
  refine F.ok scKnown (fun vs H Q E h => ?_) (fun cdv A outer s H vs Q E hr h => ?_)
  · obtain ⟨a, c, F, rfl, _⟩ := h
    rfl
  obtain ⟨a, c, F, rfl, ⟨I, dx, lp, rd, nw, ts, ns, C⟩, ok, q⟩ := h
  have hr4 : Room 4 _ := hr.mono (by decide)
  have hnd := scKnown.nd
  refine ⟨_, pss_cons (ps_if (pt_val (pe_meth0 (pv 0) T.clC mN GN hr4 bN .nil pass0)) (pss_one (ps_ret (pe_un un_neg pe_int))) pss_nil)
    (pss_one (ps_ret (pe_callB (cr_max rfl) (by rfl) T.max (by decide +kernel) (pa_cons
      (pe_lc (own := [("place", 1)]) (g := gName 1) (tt := tYes) (te := tMeth CC "least_without_news" (spLeast CC) [] E0 (tVar 0) (tCons (tLst (tCons (tVar 1) tNil)) tNil)) (by rfl) hnd (pi_list (pe_fld (pv 0) rfl))
        (blkOk_by (own := [("place", 1)]) (N := nKnown) (sc := defScope sKnown) (by decide +kernel))
        (fun _ _ _ _ _ => pg_name (i := 1) hnd rfl (Or.inl rfl)) (fun _ _ _ _ _ => pts_nil)
        (fun _ _ _ _ _ => pe_meth (pv 0) T.clC mG G hr bG .nil pass0 (pa_cons (pe_lst (pa_cons (pv 1) pa_nil)) pa_nil))) pa_nil)))), ?_⟩
  refine ⟨_, rfl, a, dx, _, rfl, C.obj, cF_none (by decide +kernel), ?_⟩
  refine ⟨a, c, F, rfl, ⟨I, dx, lp, rd, nw, ts, ns, C⟩, ok, fun H1 s1 => ⟨_, rfl, ?_⟩⟩
  have C1 := C.same s1
  cases hw : noWay c with
  | true =>
    rw [(told_no ok hw).2.2] at q
    exact ⟨_, rfl, q H1 s1⟩
  | false =>
    rw [told_known ok hw] at q
    refine ⟨_, rfl, a, CC, dx, _, _, rfl, C1.obj, T.clC, T.cLp, cF_lp, lp, rfl, ⟨_, .of (C1.im _ _ C1.lpl)⟩, fun D hD => ?_⟩
    refine lc_list (K := K) (a := lp) (xs := natsV c.mays) (fun i H' => Same H1 H' ∧ H' D = some (.lst (natsV ((c.mays.take i).map fun v => lw c [v])))) ⟨same_new hD _, upd_same⟩ (fun i H' _ ⟨s, _⟩ => .of (s _ _ (C1.im _ _ C1.lpl))) ?_ ?_
    · rintro i y H2 hi ⟨s2, e2⟩
      obtain ⟨v, hv, rfl⟩ := natsV_got hi
      have C2 := C1.same s2
      refine ⟨rfl, ?_⟩
      refine ⟨_, rfl, a, dx, _, rfl, C2.obj, cF_none (by decide +kernel), _, rfl, (by show 1 ≤ sizeLine; decide), fun l hl => ?_⟩
      have s3 : Same H2 (upd H2 l (.lst [vN v])) := same_new hl _
      refine ⟨a, l, c, F, [v], rfl, ⟨I, dx, lp, rd, nw, ts, ns, C2.same s3⟩, ok, upd_same, by simp, (by show 1 ≤ 6; decide), fun x hx => by rw [List.mem_singleton.mp hx]; exact List.mem_of_getElem? hv, hw, fun H4 s4 => ?_⟩
      refine ⟨_, s4 _ _ (s3 _ _ e2), ?_, same_over (s2.trans (s3.trans s4)) hD _, ?_⟩
      · rw [natsV_length, List.length_map, List.length_take]
        have := mays_len ok
        exact small1000 (by omega)
      · rw [upd_same, take_more hv, List.map_append, ← natsV_snoc]; rfl
    · rintro H2 ⟨s2, e2⟩
      rw [natsV_length, List.take_length, natsV_ints] at e2
      refine ⟨D, _, rfl, .of e2, ?_, fun m hm1 hm2 => ?_⟩
      · rw [List.length_map, List.length_map]
        exact List.length_pos_iff.mpr (mays_ne ok)
      · rw [max_nats hm1 hm2]
        exact q H2 (s1.trans s2)
end
end Rb

namespace Rb
open PySem PySem.Spec PyProof.Rows L2
open Si94 (Chase News)
theorem casts_vN (l : List Nat) : (casts l).map V.int = natsV l := (natsV_ints l).symm
theorem dI {a b : Int} (h : ¬ a = b) : decide (V.int a = V.int b) = false := decide_eq_false fun z => h (V.int.inj z)
theorem dY (a : Int) : decide (V.int a = V.int a) = true := decide_eq_true rfl
/-- the slice behind the first -/
theorem cut_tail (x : V) (l : List V) : cutV (x :: l) (some 1) none = l := by
  unfold cutV
  rw [HT.sIx_none]
  have e : HT.sIx (x :: l).length 0 (some 1) = 1 := by
    have := HT.sIx_nat (x :: l).length 0 1
    have e1 : (some (1 : Int)) = some ((1 : Nat) : Int) := rfl
    rw [e1, this, List.length_cons]; omega
  rw [e]
  show l.take ((x :: l).length - 1) = l
  rw [List.length_cons, Nat.add_sub_cancel, List.take_length]
theorem cut_part (xs : List V) {i j : Nat} (h : i ≤ j) (hj : j ≤ xs.length) : cutV xs (some ((i : Nat) : Int)) (some ((j : Nat) : Int)) = (xs.drop i).take (j - i) := by
  unfold cutV
  rw [HT.sIx_nat, HT.sIx_nat, Nat.min_eq_left hj, Nat.min_eq_left (by omega)]
/-- answer_of: what a call answers, in a new list -/
def spAnswer (CC : Addr) : Sp := fun vs H Q _ => ∃ (a l : Addr) (c : Chase) (F : Hp) (z : Int) (xs : List Int) (q : Si94.Call), vs = [.ref a, .int z, .ref l] ∧ Told (z :: xs) q ∧ H l = some (.lst (xs.map V.int)) ∧ ChaseIs CC F H a c ∧ Okc c ∧
  ∀ (H' : Hp) (r : Addr), ChaseIs CC F H' a (Si94.step c q).1 → F r = none → H' r = some (.lst ((said c q).map V.int)) → Q (.ref r) H'
section
variable {P : Program} {w : World} {K : PySem.W.Frag} {mg : Str → Option Value} {base : Heap} {CW CC : Addr}
/-- the methods that answer_of calls -/
structure Meths (P : Program) (w : World) (K : PySem.W.Frag) (mg : Str → Option Value) (base : Heap) (CC : Addr) (f0 f1 f2 f3 f4 f5 f6 f7 : Addr) (d0 d1 d2 d3 d4 d5 d6 d7 : FuncData) : Prop where
  m0 : Meth K CC "begins" f0
  m1 : Meth K CC "road" f1
  m2 : Meth K CC "may" f2
  m3 : Meth K CC "news" f3
  m4 : Meth K CC "far" f4
  m5 : Meth K CC "worst" f5
  m6 : Meth K CC "unknown" f6
  m7 : Meth K CC "known" f7
  b0 : Binds K d0 ["self", "places", "car", "landing"] []
  b1 : Binds K d1 ["self", "place", "other", "minutes"] []
  b2 : Binds K d2 ["self", "places"] []
  b3 : Binds K d3 ["self", "minute", "parts"] []
  b4 : Binds K d4 ["self", "place", "other"] []
  b5 : Binds K d5 ["self"] []
  b6 : Binds K d6 ["self"] []
  b7 : Binds K d7 ["self"] []
  k0 : FnOk P w K mg base CX0 2 f0 d0 ["self", "places", "car", "landing"] (spBegins CC)
  k1 : FnOk P w K mg base CX0 1 f1 d1 ["self", "place", "other", "minutes"] (spRoad CC)
  k2 : FnOk P w K mg base CX0 1 f2 d2 ["self", "places"] (spMay CC)
  k3 : FnOk P w K mg base CX0 2 f3 d3 ["self", "minute", "parts"] (spNews CC)
  k4 : FnOk P w K mg base CX0 3 f4 d4 ["self", "place", "other"] (spFar CC)
  k5 : FnOk P w K mg base CX0 11 f5 d5 ["self"] (spWorst CC)
  k6 : FnOk P w K mg base CX0 12 f6 d6 ["self"] (spOne CC .unknown)
  k7 : FnOk P w K mg base CX0 12 f7 d7 ["self"] (spOne CC .known)
theorem scAnswer : FnScope ["chase", "call", "numbers"] ["chase", "call", "numbers"] (defScope sAnswer) := ⟨rfl, rfl, rfl, by decide +kernel, rfl, by decide +kernel, by decide +kernel⟩
theorem ok_answer {f f0 f1 f2 f3 f4 f5 f6 f7 : Addr} {fd d0 d1 d2 d3 d4 d5 d6 d7 : FuncData} (F : Fun K "answer_of" "answer_of" sAnswer f fd) (T : Txt K mg CW CC) (M : Meths P w K mg base CC f0 f1 f2 f3 f4 f5 f6 f7 d0 d1 d2 d3 d4 d5 d6 d7) :
    FnOk P w K mg base CX0 13 f fd ["chase", "call", "numbers"] (spAnswer CC) := by
  refine F.ok scAnswer (fun vs H Q E h => ?_) (fun cdv A outer s H vs Q E hr h => ?_)
  · obtain ⟨a, l, c, F, z, xs, q, rfl, _⟩ := h
    rfl
  obtain ⟨a, l, c, F, z, xs, q, rfl, told, hl, CI, ok, out⟩ := h
  obtain ⟨t0, g0⟩ := T.g0
  obtain ⟨t1, g1⟩ := T.g1
  obtain ⟨t2, g2⟩ := T.g2
  obtain ⟨t3, g3⟩ := T.g3
  obtain ⟨t4, g4⟩ := T.g4
  obtain ⟨t5, g5⟩ := T.g5
  obtain ⟨t6, g6⟩ := T.g6
  obtain ⟨t7, g7⟩ := T.g7
  have hr1 : Room 1 _ := hr.mono (by decide)
  have hr2 : Room 2 _ := hr.mono (by decide)
  have hr3 : Room 3 _ := hr.mono (by decide)
  have hr11 : Room 11 _ := hr.mono (by decide)
  refine ⟨_, pss_cons (ps_if (pt_cmpR op_eq (pv 1) (pe_glob (v := .int 0) rfl g0 ⟨_, rfl⟩) (nomark _)) (pss_one (ps_ret (pe_lst (pa_cons (pe_meth (pv 0) T.clC M.m0 M.k0 hr2 M.b0 .nil pass0 (pa_cons (pe_ix ix_list (pv 2) pe_int (fun _ _ => rfl)) (pa_cons (pe_ix ix_list (pv 2) pe_int (fun _ _ => rfl)) (pa_cons (pe_ix ix_list (pv 2) pe_int (fun _ _ => rfl)) pa_nil)))) pa_nil)))) pss_nil)
    (pss_cons (ps_if (pt_cmpR op_eq (pv 1) (pe_glob (v := .int 1) rfl g1 ⟨_, rfl⟩) (nomark _)) (pss_one (ps_ret (pe_lst (pa_cons (pe_meth (pv 0) T.clC M.m1 M.k1 hr1 M.b1 .nil pass0 (pa_cons (pe_ix ix_list (pv 2) pe_int (fun _ _ => rfl)) (pa_cons (pe_ix ix_list (pv 2) pe_int (fun _ _ => rfl)) (pa_cons (pe_ix ix_list (pv 2) pe_int (fun _ _ => rfl)) pa_nil)))) pa_nil)))) pss_nil)
    (pss_cons (ps_if (pt_cmpR op_eq (pv 1) (pe_glob (v := .int 2) rfl g2 ⟨_, rfl⟩) (nomark _)) (pss_one (ps_ret (pe_lst (pa_cons (pe_meth (pv 0) T.clC M.m2 M.k2 hr1 M.b2 .nil pass0 (pa_cons (pe_ix ix_list (pv 2) pe_int (fun _ _ => rfl)) pa_nil)) pa_nil)))) pss_nil)
    (pss_cons (ps_if (pt_cmpR op_eq (pv 1) (pe_glob (v := .int 3) rfl g3 ⟨_, rfl⟩) (nomark _)) (pss_one (ps_ret (pe_lst (pa_cons (pe_meth (pv 0) T.clC M.m3 M.k3 hr2 M.b3 .nil pass0 (pa_cons (pe_ix ix_list (pv 2) pe_int (fun _ _ => rfl)) (pa_cons (pe_slice sl_list (pv 2) (po_some pe_int) po_none) pa_nil))) pa_nil)))) pss_nil)
    (pss_cons (ps_if (pt_cmpR op_eq (pv 1) (pe_glob (v := .int 4) rfl g4 ⟨_, rfl⟩) (nomark _)) (pss_one (ps_ret (pe_lst (pa_cons (pe_meth (pv 0) T.clC M.m4 M.k4 hr3 M.b4 .nil pass0 (pa_cons (pe_ix ix_list (pv 2) pe_int (fun _ _ => rfl)) (pa_cons (pe_ix ix_list (pv 2) pe_int (fun _ _ => rfl)) pa_nil))) pa_nil)))) pss_nil)
    (pss_cons (ps_if (pt_cmpR op_eq (pv 1) (pe_glob (v := .int 5) rfl g5 ⟨_, rfl⟩) (nomark _)) (pss_one (ps_ret (pe_meth0 (pv 0) T.clC M.m5 M.k5 hr11 M.b5 .nil pass0))) pss_nil)
    (pss_cons (ps_if (pt_cmpR op_eq (pv 1) (pe_glob (v := .int 6) rfl g6 ⟨_, rfl⟩) (nomark _)) (pss_one (ps_ret (pe_lst (pa_cons (pe_meth0 (pv 0) T.clC M.m6 M.k6 hr M.b6 .nil pass0) pa_nil)))) pss_nil)
    (pss_cons (ps_if (pt_cmpR op_eq (pv 1) (pe_glob (v := .int 7) rfl g7 ⟨_, rfl⟩) (nomark _)) (pss_one (ps_ret (pe_lst (pa_cons (pe_meth0 (pv 0) T.clC M.m7 M.k7 hr M.b7 .nil pass0) pa_nil)))) pss_nil)
    (pss_one ps_never)))))))), ?_⟩
  obtain ⟨I, dx, lp, rd, nw, ts, ns, C⟩ := id CI
  -- one number as the whole answer
  have one : q ≠ .worst → ∀ H1, ChaseIs CC F H1 a (Si94.step c q).1 → ∀ r, H1 r = none → Q (.ref r) (upd H1 r (.lst [.int (Si94.step c q).2.v])) := fun hq H1 C1 r hr' => by
    refine out _ r (C1.same (same_new hr' _)) (C1.fr.free hr') ?_
    rw [upd_same]
    unfold said
    rw [said_one hq]; rfl
  cases told with
  | begins n st t =>
    refine ⟨_, rfl, rfl, _, rfl, ?_⟩
    refine ⟨_, rfl, a, dx, _, rfl, C.obj, cF_none (by decide +kernel), ?_⟩
    refine ⟨_, rfl, l, _, _, _, rfl, rfl, .of hl, rfl, _, rfl, l, _, _, _, rfl, rfl, .of hl, rfl, _, rfl, l, _, _, _, rfl, rfl, .of hl, rfl, ?_⟩
    refine ⟨a, c, F, n, st, t, rfl, CI, fun H1 C1 => ?_⟩
    exact ⟨(by show 1 ≤ sizeLine; decide), fun r hr' => one (by intro z; cases z) H1 C1 r hr'⟩
  | road x y m =>
    refine ⟨_, rfl, rfl, _, rfl, ?_⟩
    refine ⟨_, rfl, rfl, _, rfl, ?_⟩
    refine ⟨_, rfl, a, dx, _, rfl, C.obj, cF_none (by decide +kernel), ?_⟩
    refine ⟨_, rfl, l, _, _, _, rfl, rfl, .of hl, rfl, _, rfl, l, _, _, _, rfl, rfl, .of hl, rfl, _, rfl, l, _, _, _, rfl, rfl, .of hl, rfl, ?_⟩
    refine ⟨a, c, F, x, y, m, rfl, CI, ok, fun H1 C1 => ?_⟩
    exact ⟨(by show 1 ≤ sizeLine; decide), fun r hr' => one (by intro z; cases z) H1 C1 r hr'⟩
  | may x =>
    refine ⟨_, rfl, rfl, _, rfl, ?_⟩
    refine ⟨_, rfl, rfl, _, rfl, ?_⟩
    refine ⟨_, rfl, rfl, _, rfl, ?_⟩
    refine ⟨_, rfl, a, dx, _, rfl, C.obj, cF_none (by decide +kernel), ?_⟩
    refine ⟨_, rfl, l, _, _, _, rfl, rfl, .of hl, rfl, ?_⟩
    refine ⟨a, c, F, x, rfl, CI, ok, fun H1 C1 => ?_⟩
    exact ⟨(by show 1 ≤ sizeLine; decide), fun r hr' => one (by intro z; cases z) H1 C1 r hr'⟩
  | news m p h8 =>
    refine ⟨_, rfl, rfl, _, rfl, ?_⟩
    refine ⟨_, rfl, rfl, _, rfl, ?_⟩
    refine ⟨_, rfl, rfl, _, rfl, ?_⟩
    refine ⟨_, rfl, rfl, _, rfl, ?_⟩
    refine ⟨_, rfl, a, dx, _, rfl, C.obj, cF_none (by decide +kernel), ?_⟩
    refine ⟨_, rfl, l, _, _, _, rfl, rfl, .of hl, atI_nat (j := 0) rfl, ?_⟩
    refine ⟨_, rfl, _, rfl, l, _, rfl, .of hl, fun pa hpa => ?_⟩
    have e : cutV (List.map V.int (List.map (fun n => ((n : Nat) : Int)) (m :: p))) (some 1) none = natsV p := by
      show cutV (V.int ((m : Nat) : Int) :: List.map V.int (List.map (fun n => ((n : Nat) : Int)) p)) (some 1) none = natsV p
      rw [cut_tail]
      exact casts_vN p
    rw [e]
    refine ⟨a, pa, c, F, m, p, rfl, CI.same (same_new hpa _), ok, upd_same, fun H1 C1 => ?_⟩
    exact ⟨(by show 1 ≤ sizeLine; decide), fun r hr' => one (by intro z; cases z) H1 C1 r hr'⟩
  | far x y =>
    refine ⟨_, rfl, rfl, _, rfl, ?_⟩
    refine ⟨_, rfl, rfl, _, rfl, ?_⟩
    refine ⟨_, rfl, rfl, _, rfl, ?_⟩
    refine ⟨_, rfl, rfl, _, rfl, ?_⟩
    refine ⟨_, rfl, rfl, _, rfl, ?_⟩
    refine ⟨_, rfl, a, dx, _, rfl, C.obj, cF_none (by decide +kernel), ?_⟩
    refine ⟨_, rfl, l, _, _, _, rfl, rfl, .of hl, rfl, _, rfl, l, _, _, _, rfl, rfl, .of hl, rfl, ?_⟩
    refine ⟨a, c, F, x, y, rfl, CI, ok, fun H1 s1 => ?_⟩
    exact ⟨(by show 1 ≤ sizeLine; decide), fun r hr' => one (by intro z; cases z) H1 (by rw [far_stays]; exact CI.same s1) r hr'⟩
  | worst =>
    refine ⟨_, rfl, rfl, _, rfl, ?_⟩
    refine ⟨_, rfl, rfl, _, rfl, ?_⟩
    refine ⟨_, rfl, rfl, _, rfl, ?_⟩
    refine ⟨_, rfl, rfl, _, rfl, ?_⟩
    refine ⟨_, rfl, rfl, _, rfl, ?_⟩
    refine ⟨_, rfl, rfl, _, rfl, ?_⟩
    refine ⟨_, rfl, a, dx, _, rfl, C.obj, cF_none (by decide +kernel), ?_⟩
    exact ⟨a, c, F, rfl, CI, ok, fun H1 r s1 nr e => out H1 r (CI.same s1) (C.fr.free nr) e⟩
  | unknown =>
    refine ⟨_, rfl, rfl, _, rfl, ?_⟩
    refine ⟨_, rfl, rfl, _, rfl, ?_⟩
    refine ⟨_, rfl, rfl, _, rfl, ?_⟩
    refine ⟨_, rfl, rfl, _, rfl, ?_⟩
    refine ⟨_, rfl, rfl, _, rfl, ?_⟩
    refine ⟨_, rfl, rfl, _, rfl, ?_⟩
    refine ⟨_, rfl, rfl, _, rfl, ?_⟩
    refine ⟨_, rfl, a, dx, _, rfl, C.obj, cF_none (by decide +kernel), ?_⟩
    refine ⟨a, c, F, rfl, CI, ok, fun H1 s1 => ?_⟩
    exact ⟨(by show 1 ≤ sizeLine; decide), fun r hr' => one (by intro z; cases z) H1 (CI.same s1) r hr'⟩
  | known =>
    refine ⟨_, rfl, rfl, _, rfl, ?_⟩
    refine ⟨_, rfl, rfl, _, rfl, ?_⟩
    refine ⟨_, rfl, rfl, _, rfl, ?_⟩
    refine ⟨_, rfl, rfl, _, rfl, ?_⟩
    refine ⟨_, rfl, rfl, _, rfl, ?_⟩
    refine ⟨_, rfl, rfl, _, rfl, ?_⟩
    refine ⟨_, rfl, rfl, _, rfl, ?_⟩
    refine ⟨_, rfl, rfl, _, rfl, ?_⟩
    refine ⟨_, rfl, a, dx, _, rfl, C.obj, cF_none (by decide +kernel), ?_⟩
    refine ⟨a, c, F, rfl, CI, ok, fun H1 s1 => ?_⟩
    exact ⟨(by show 1 ≤ sizeLine; decide), fun r hr' => one (by intro z; cases z) H1 (CI.same s1) r hr'⟩
end
end Rb

namespace Rb
open PySem PySem.Spec PyProof.Rows L2
open Si94 (Chase News)
theorem ChaseIs.grow {CC : Addr} {F H : Hp} {a : Addr} {c : Chase} (h : ChaseIs CC F H a c) {g : Addr} {u : HO} (hg : H g = none) : ChaseIs CC (upd F g u) (upd H g u) a c := by
  obtain ⟨I, dx, lp, rd, nw, ts, ns, h⟩ := h
  have ga : a ≠ g := ne_of_none h.obj hg
  have gr : rd ≠ g := ne_of_none h.rdl hg
  have gn : nw ≠ g := ne_of_none h.nwl hg
  refine ⟨I, dx, lp, rd, nw, ts, ns, ?_⟩
  exact { h.same (same_new hg u) with
    fr := fun b x e => by
      by_cases hb : b = g
      · rw [hb, upd_same] at e ⊢; exact e
      · rw [upd_ne hb] at e ⊢; exact h.fr b x e
    dj := fun b x e => by
      rw [upd_ne (ne_of_none (h.im b x e) hg)]
      exact h.dj b x e
    fa := by rw [upd_ne ga]; exact h.fa
    frd := by rw [upd_ne gr]; exact h.frd
    fnw := by rw [upd_ne gn]; exact h.fnw }
def spAnswers (K : PySem.W.Frag) : Sp := fun vs H Q _ => ∃ (a : Addr) (ns : List Int), vs = [.ref a] ∧ SqL K H a (ns.map V.int) ∧ ns.length ≤ 3000 ∧ PySi94.answers_asked ns = true ∧
  ∀ (H' : Hp) (p : Addr), H' p = some (.lst ((PySi94.answers ns).map V.int)) → Q (.ref p) H'
/-- how much of the list is still to be gone through -/
def leftOf (n : Nat) (σ : List (Option V)) : Nat := match σ[3]? with
  | some (some (V.int i)) => ((n : Int) - i).toNat
  | _ => 0
/-- where the loop stands: at numbers of the list are gone through, cs are the calls still to come -/
structure Turn (CC : Addr) (H0 H : Hp) (x g : Addr) (ns : List Int) (c : Chase) (at_ : Nat) (done : List Int) (cs : List (List (List Int))) : Prop where
  chase : ChaseIs CC (upd H0 g (.lst (done.map V.int))) H x c
  ok : Okc c
  new : H0 g = none
  le : at_ ≤ ns.length
  rest : ns.drop at_ = PyWide.put cs
  good : Good cs
  due : PySi94.answers ns = done ++ PyFlat.told (PyFlat.played Si94Neutral.step c cs)
  few : done.length ≤ 4 * at_
section
variable {P : Program} {w : World} {K : PySem.W.Frag} {mg : Str → Option Value} {base : Heap} {CW CC : Addr}
theorem line20000 {n : Nat} (h : n ≤ 20000) : n < sizeLine := Nat.lt_of_le_of_lt h (by decide)
abbrev nAnswers : List Str := ["calls", "chase", "given", "at", "numbers_end", "answer"]
theorem scAnswers : FnScope nAnswers ["calls"] (defScope sAnswers) := ⟨rfl, rfl, rfl, by decide +kernel, rfl, by decide +kernel, by decide +kernel⟩
theorem ok_answers {f g i : Addr} {fd gd idd : FuncData} (F : Fun K "answers" "answers" sAnswers f fd) (T : Txt K mg CW CC)
    (M : Mk K CC i) (GI : FnOk P w K mg base CX0 2 i idd ["self"] (spCInit CC)) (bI : Binds K idd ["self"] [])
    (G : FnOk P w K mg base CX0 13 g gd ["chase", "call", "numbers"] (spAnswer CC)) (bG : Binds K gd ["chase", "call", "numbers"] []) (kG : PySem.W.keepIn K (.ref g) = true) (mG : mg "answer_of" = some (.ref g)) :
    FnOk P w K mg base CX0 14 f fd ["calls"] (spAnswers K) := by
  refine F.ok scAnswers (fun vs H Q E h => ?_) (fun cdv A outer s H vs Q E hr h => ?_)
  · obtain ⟨a, ns, rfl, _⟩ := h
    rfl
  obtain ⟨a, ns, rfl, hS, hlen, hask, q⟩ := h
  have nd := scAnswers.nd
  have hr3 : Room 3 _ := hr.mono (by decide)
  refine ⟨_, pss_cons (ps_set (i := 1) nd rfl (Or.inl rfl) (pe_make0 M GI hr3 rfl T.gC bI .nil pass0))
    (pss_cons (ps_set (i := 2) nd rfl (Or.inl rfl) (pe_lst pa_nil))
    (pss_cons (ps_set (i := 3) nd rfl (Or.inl rfl) pe_int)
    (pss_cons (ps_while PassesOwn.never (pt_cmpR op_lt (pv 3) (pe_callB call_len_seq (by rfl) T.len PySem.boot_len (pa_cons (pv 0) pa_nil)) (nomark _))
      (pss_cons (ps_set (i := 4) nd rfl (Or.inl rfl) (pe_op op_add (pe_op op_add (pv 3) pe_int) (pe_ix ix_list (pv 0) (pe_op op_add (pv 3) pe_int) (fun _ _ => rfl))))
      (pss_cons (ps_set (i := 5) nd rfl (Or.inl rfl) (pe_call G hr rfl mG kG bG .nil pass0 (pa_cons (pv 1) (pa_cons (pe_ix ix_list (pv 0) (pv 3) (fun _ _ => rfl)) (pa_cons (pe_slice sl_list (pv 0) (po_some (pe_op op_add (pv 3) pe_int)) (po_some (pv 4))) pa_nil)))))
      (pss_cons (ps_expr (pe_bm PySem.F.plainAttrs_list PySem.F.slot_list_append PySem.F.type_list_append mt_append (pv 2) (pa_cons (pe_callB call_len_seq (by rfl) T.len PySem.boot_len (pa_cons (pv 5) pa_nil)) pa_nil)))
      (pss_cons (ps_expr (pe_bm PySem.F.plainAttrs_list PySem.F.slot_list_extend PySem.F.type_list_extend mt_extend (pv 2) (pa_cons (pv 5) pa_nil)))
      (pss_one (ps_set (i := 3) nd rfl (Or.inl rfl) (pe_op op_add (pv 4) pe_int))))))))
    (pss_one (ps_ret (pv 2)))))), ?_⟩
  obtain ⟨cs0, e0, good0, due0⟩ := good_of hask
  -- chase = Chase()
  intro x dx nx ndx ne
  have s0 : Same H (upd (upd H dx (.own x)) x (.ins CC dx [])) := (same_new ndx _).trans (same_new (by rw [upd_ne ne.symm]; exact nx) _)
  refine ⟨x, dx, H, rfl, upd_same, s0, nx, fun H1 C1 => ⟨rfl, ?_⟩⟩
  -- given = []
  refine ⟨(by show 0 ≤ sizeLine; decide), fun gv hgv => ?_⟩
  have start : Turn CC H (upd H1 gv (.lst [])) x gv ns Si94.init 0 [] cs0 := ⟨C1.grow hgv, okc_init, C1.fr.free hgv, Nat.zero_le _, e0, good0, due0, Nat.zero_le _⟩
  refine while_by (fun σ H' => ∃ (at_ : Nat) (v4 v5 : Option V) (c : Chase) (done : List Int) (cs : List (List (List Int))), σ = [some (.ref a), some (.ref x), some (.ref gv), some (vN at_), v4, v5] ∧ Turn CC H H' x gv ns c at_ done cs) (fun σ _ => leftOf ns.length σ)
    ⟨0, none, none, Si94.init, [], cs0, rfl, start⟩ ?_ ?_
  · rintro σ H2 ⟨k, v4, v5, c, done, cs, rfl, R⟩
    have sF : Same H (upd H gv (.lst (done.map V.int))) := same_new R.new _
    have sH : Same H H2 := sF.trans R.chase.fr
    have hS2 := sH.seq hS
    refine ⟨_, rfl, _, rfl, a, _, rfl, .inl hS2, _, _, rfl, rfl, _, rfl, ?_⟩
    rw [List.length_map]
    refine ite2 (fun z => ?_) (fun z => ?_)
    · have z := of_decide_eq_true z
      have hk : k < ns.length := by omega
      cases cs with
      | nil =>
        exfalso
        have e := R.rest
        have e2 := congrArg List.length e
        rw [List.length_drop] at e2
        have e3 : (PyWide.put []).length = 0 := rfl
        omega
      | cons cl cs =>
        obtain ⟨zc, xs, qc, rfl, told, hcall, hput, good'⟩ := good_cons R.good
        have rest := R.rest.trans hput
        have rl := congrArg List.length rest
        rw [List.length_drop, List.length_cons, List.length_cons, List.length_append, List.length_cons] at rl
        have i0 : ns[k]? = some zc := by
          have := congrArg (fun l => l[0]?) rest
          simpa [List.getElem?_drop] using this
        have i1 : ns[k + 1]? = some ((xs.length : Nat) : Int) := by
          have := congrArg (fun l => l[1]?) rest
          simpa [List.getElem?_drop] using this
        have d2 : ns.drop (k + 2) = xs ++ 0 :: PyWide.put cs := by
          have := congrArg (List.drop 2) rest
          rwa [List.drop_drop] at this
        have d3 : ns.drop (k + 2 + xs.length + 1) = PyWide.put cs := by
          have := congrArg (List.drop (xs.length + 1)) d2
          rw [List.drop_drop, ← List.drop_drop (i := 1) (j := xs.length), List.drop_left] at this
          exact this
        have p0 : (ns.map V.int)[k]? = some (.int zc) := by rw [List.getElem?_map, i0]; rfl
        have p1 : (ns.map V.int)[k + 1]? = some (.int ((xs.length : Nat) : Int)) := by rw [List.getElem?_map, i1]; rfl
        -- numbers_end = at + 2 + calls[at + 1]
        refine ⟨_, rfl, _, _, rfl, rfl, _, rfl, _, rfl, _, _, rfl, rfl, a, _, _, _, rfl, rfl, hS2, atI_nat (j := k + 1) p1, _, _, rfl, rfl, ?_⟩
        have ee : ((k : Nat) : Int) + 2 + ((xs.length : Nat) : Int) = ((k + 2 + xs.length : Nat) : Int) := by omega
        dsimp only
        rw [ee]
        -- answer = answer_of(chase, calls[at], calls[at + 2:numbers_end])
        refine ⟨_, rfl, _, rfl, _, rfl, a, _, _, _, rfl, rfl, hS2, atI_nat p0, _, rfl, _, rfl, _, _, rfl, rfl, _, rfl, _, rfl, _, rfl, a, _, rfl, hS2, fun l hl => ?_⟩
        have cut : cutV (ns.map V.int) (some (((k : Nat) : Int) + 2)) (some ((k + 2 + xs.length : Nat) : Int)) = xs.map V.int := by
          have e2 : ((k : Nat) : Int) + 2 = ((k + 2 : Nat) : Int) := by omega
          rw [e2, cut_part _ (by omega) (by rw [List.length_map]; omega), ← List.map_drop, d2, List.map_append]
          have e3 : k + 2 + xs.length - (k + 2) = (xs.map V.int).length := by rw [List.length_map]; omega
          rw [e3, List.take_left]
        rw [cut]
        have C2 := R.chase.same (same_new hl (.lst (xs.map V.int)))
        refine ⟨x, l, c, _, zc, xs, qc, rfl, told, upd_same, C2, R.ok, fun H3 r C3 nr er => ?_⟩
        have gr : r ≠ gv := fun z => by rw [z, upd_same] at nr; cases nr
        have eg : H3 gv = some (.lst (done.map V.int)) := C3.fr _ _ upd_same
        have sm := said_few (c := c) (q := qc)
        have fw := R.few
        -- given.append(len(answer))
        refine ⟨_, rfl, .inl ⟨rfl, _, .of eg⟩, _, rfl, r, _, rfl, .inl (.of er), gv, _, _, rfl, rfl, eg, ?_, ?_⟩
        · rw [List.length_map]
          exact line20000 (by omega)
        rw [List.length_map]
        -- given.extend(answer)
        have eg2 : (upd H3 gv (.lst (done.map V.int ++ [.int (((said c qc).length : Nat) : Int)]))) gv = some (.lst (done.map V.int ++ [.int (((said c qc).length : Nat) : Int)])) := upd_same
        have er2 : (upd H3 gv (.lst (done.map V.int ++ [.int (((said c qc).length : Nat) : Int)]))) r = some (.lst ((said c qc).map V.int)) := by rw [upd_ne gr]; exact er
        refine ⟨_, rfl, .inl ⟨rfl, _, .of eg2⟩, _, rfl, gv, r, _, _, rfl, rfl, eg2, er2, ?_, ?_⟩
        · rw [List.length_append, List.length_map, List.length_map, List.length_singleton]
          exact Nat.le_of_lt (line20000 (by omega))
        rw [upd_upd]
        -- at = numbers_end + 1
        refine ⟨_, rfl, _, _, rfl, rfl, ?_⟩
        have ew : done.map V.int ++ [.int (((said c qc).length : Nat) : Int)] ++ (said c qc).map V.int = (done ++ (((said c qc).length : Nat) : Int) :: said c qc).map V.int := by
          rw [List.map_append, List.map_cons, List.append_assoc]; rfl
        rw [ew]
        have C4 := C3.other (g := gv) (o := .lst (done.map V.int)) (u := .lst ((done ++ (((said c qc).length : Nat) : Int) :: said c qc).map V.int)) upd_same
        rw [upd_upd] at C4
        refine ⟨⟨k + 2 + xs.length + 1, _, _, (Si94.step c qc).1, done ++ (((said c qc).length : Nat) : Int) :: said c qc, cs, rfl, ?_⟩, ?_⟩
        · exact {
            chase := C4
            ok := okc_step R.ok qc
            new := R.new
            le := by omega
            rest := d3
            good := good'
            due := by
              rw [R.due, told_played hcall, List.append_assoc]; rfl
            few := by
              rw [List.length_append, List.length_cons]
              omega }
        · show ((ns.length : Int) - (((k + 2 + xs.length : Nat) : Int) + 1)).toNat < ((ns.length : Int) - ((k : Nat) : Int)).toNat
          omega
    · have z := of_decide_eq_false (Bool.eq_false_iff.mpr z)
      have hk : ns.length ≤ k := by omega
      have e : PyWide.put cs = [] := by
        rw [← R.rest]
        exact List.drop_eq_nil_of_le hk
      have ec := put_nil_of R.good e
      have due := R.due
      rw [ec] at due
      have due : PySi94.answers ns = done := due.trans (List.append_nil done)
      refine ⟨_, rfl, ?_⟩
      refine q H2 gv ?_
      rw [due]
      exact R.chase.fr _ _ upd_same
  · intro σ H2 Q1 Q2 hQ h
    obtain ⟨v, e1, v2, e2, p, ys, e3, e4, i1, j1, e5, e6, b1, e7, e8⟩ := h
    exact ⟨v, e1, v2, e2, p, ys, e3, e4, i1, j1, e5, e6, b1, e7, hQ _ _ e8⟩
end
end Rb

namespace Rb
open PySem PySem.Spec PyProof.Rows L2
/-! ### what the program's top has left, and all promises together -/
theorem all_mk {P : Program} {w : World} {K : PySem.W.Frag} {h : Heap} {mg : Str → Option Value} {fa CW CC f_sh f_st f_pa f_an f_ao f_wi f_wb f_wm f_wl f_ci f_ca f_cb f_cr f_cm f_cn f_cl f_cf f_cw f_cu f_ck f_ce f_cy f_cx : Addr} (X : K.In h) (G : h.Ns mainGlobals mg) (hfa : mg "answers" = some (.ref fa))
    {od_sh an_sh od_st an_st od_pa an_pa od_an an_an od_ao an_ao od_wi an_wi od_wb an_wb od_wm an_wm od_wl an_wl od_ci an_ci od_ca an_ca od_cb an_cb od_cr an_cr od_cm an_cm od_cn an_cn od_cl an_cl od_cf an_cf od_cw an_cw od_cu an_cu od_ck an_ck od_ce an_ce od_cy an_cy od_cx an_cx : Option Addr} {sl_sh sl_st sl_pa sl_an sl_ao sl_wi sl_wb sl_wm sl_wl sl_ci sl_ca sl_cb sl_cr sl_cm sl_cn sl_cl sl_cf sl_cw sl_cu sl_ck sl_ce sl_cy sl_cx : Array (Option Value)}
    {oc_sh kV_sh dc_sh pm_sh cd_sh ct_sh oc_st kV_st dc_st pm_st cd_st ct_st oc_pa kV_pa dc_pa pm_pa cd_pa ct_pa oc_an kV_an dc_an pm_an cd_an ct_an oc_ao kV_ao dc_ao pm_ao cd_ao ct_ao oc_wi kV_wi dc_wi pm_wi cd_wi ct_wi oc_wb kV_wb dc_wb pm_wb cd_wb ct_wb oc_wm kV_wm dc_wm pm_wm cd_wm ct_wm oc_wl kV_wl dc_wl pm_wl cd_wl ct_wl oc_ci kV_ci dc_ci pm_ci cd_ci ct_ci oc_ca kV_ca dc_ca pm_ca cd_ca ct_ca oc_cb kV_cb dc_cb pm_cb cd_cb ct_cb oc_cr kV_cr dc_cr pm_cr cd_cr ct_cr oc_cm kV_cm dc_cm pm_cm cd_cm ct_cm oc_cn kV_cn dc_cn pm_cn cd_cn ct_cn oc_cl kV_cl dc_cl pm_cl cd_cl ct_cl oc_cf kV_cf dc_cf pm_cf cd_cf ct_cf oc_cw kV_cw dc_cw pm_cw cd_cw ct_cw oc_cu kV_cu dc_cu pm_cu cd_cu ct_cu oc_ck kV_ck dc_ck pm_ck cd_ck ct_ck oc_ce kV_ce dc_ce pm_ce cd_ce ct_ce oc_cy kV_cy dc_cy pm_cy cd_cy ct_cy oc_cx kV_cx dc_cx pm_cx cd_cx ct_cx : Value} {t_gNo t_gMp t_gMr t_gMn t_gLl t_gLr t_g0 t_g1 t_g2 t_g3 t_g4 t_g5 t_g6 t_g7 : Tok}
    (aCW : PySem.W.nsIn K mainGlobals "Ways" = some (some (.ref CW)))
    (aCC : PySem.W.nsIn K mainGlobals "Chase" = some (some (.ref CC)))
    (a_sh : PySem.W.nsIn K mainGlobals "shortest_drives" = some (some (.ref f_sh)))
    (l_sh : K.lookup f_sh = some ⟨oc_sh, od_sh, .func (PySem.W.fnOf "shortest_drives" "shortest_drives" (defArgs sShort) (defBody sShort) (defScope sShort) .none kV_sh dc_sh pm_sh an_sh cd_sh ct_sh), sl_sh⟩)
    (c_sh : PySem.W.codeIn K cd_sh "shortest_drives" = true)
    (k_sh : PySem.W.keepIn K (.ref f_sh) = true)
    (a_st : PySem.W.nsIn K mainGlobals "straight_drives" = some (some (.ref f_st)))
    (l_st : K.lookup f_st = some ⟨oc_st, od_st, .func (PySem.W.fnOf "straight_drives" "straight_drives" (defArgs sStraight) (defBody sStraight) (defScope sStraight) .none kV_st dc_st pm_st an_st cd_st ct_st), sl_st⟩)
    (c_st : PySem.W.codeIn K cd_st "straight_drives" = true)
    (k_st : PySem.W.keepIn K (.ref f_st) = true)
    (a_pa : PySem.W.nsIn K mainGlobals "parted" = some (some (.ref f_pa)))
    (l_pa : K.lookup f_pa = some ⟨oc_pa, od_pa, .func (PySem.W.fnOf "parted" "parted" (defArgs sParted) (defBody sParted) (defScope sParted) .none kV_pa dc_pa pm_pa an_pa cd_pa ct_pa), sl_pa⟩)
    (c_pa : PySem.W.codeIn K cd_pa "parted" = true)
    (k_pa : PySem.W.keepIn K (.ref f_pa) = true)
    (a_an : PySem.W.nsIn K mainGlobals "answers" = some (some (.ref f_an)))
    (l_an : K.lookup f_an = some ⟨oc_an, od_an, .func (PySem.W.fnOf "answers" "answers" (defArgs sAnswers) (defBody sAnswers) (defScope sAnswers) .none kV_an dc_an pm_an an_an cd_an ct_an), sl_an⟩)
    (c_an : PySem.W.codeIn K cd_an "answers" = true)
    (k_an : PySem.W.keepIn K (.ref f_an) = true)
    (a_ao : PySem.W.nsIn K mainGlobals "answer_of" = some (some (.ref f_ao)))
    (l_ao : K.lookup f_ao = some ⟨oc_ao, od_ao, .func (PySem.W.fnOf "answer_of" "answer_of" (defArgs sAnswer) (defBody sAnswer) (defScope sAnswer) .none kV_ao dc_ao pm_ao an_ao cd_ao ct_ao), sl_ao⟩)
    (c_ao : PySem.W.codeIn K cd_ao "answer_of" = true)
    (k_ao : PySem.W.keepIn K (.ref f_ao) = true)
    (a_wi : PySem.W.findIn K (.ref CW) "__init__" = some (some (.ref f_wi)))
    (i_wi : PySem.W.isFn K (.ref f_wi) = true)
    (l_wi : K.lookup f_wi = some ⟨oc_wi, od_wi, .func (PySem.W.fnOf "__init__" "Ways.__init__" (defArgs sWInit) (defBody sWInit) (defScope sWInit) .none kV_wi dc_wi pm_wi an_wi cd_wi ct_wi), sl_wi⟩)
    (c_wi : PySem.W.codeIn K cd_wi "Ways.__init__" = true)
    (k_wi : PySem.W.keepIn K (.ref f_wi) = true)
    (a_wb : PySem.W.findIn K (.ref CW) "best" = some (some (.ref f_wb)))
    (i_wb : PySem.W.isFn K (.ref f_wb) = true)
    (l_wb : K.lookup f_wb = some ⟨oc_wb, od_wb, .func (PySem.W.fnOf "best" "Ways.best" (defArgs sBest) (defBody sBest) (defScope sBest) .none kV_wb dc_wb pm_wb an_wb cd_wb ct_wb), sl_wb⟩)
    (c_wb : PySem.W.codeIn K cd_wb "Ways.best" = true)
    (k_wb : PySem.W.keepIn K (.ref f_wb) = true)
    (a_wm : PySem.W.findIn K (.ref CW) "minute_of" = some (some (.ref f_wm)))
    (i_wm : PySem.W.isFn K (.ref f_wm) = true)
    (l_wm : K.lookup f_wm = some ⟨oc_wm, od_wm, .func (PySem.W.fnOf "minute_of" "Ways.minute_of" (defArgs sMinute) (defBody sMinute) (defScope sMinute) .none kV_wm dc_wm pm_wm an_wm cd_wm ct_wm), sl_wm⟩)
    (c_wm : PySem.W.codeIn K cd_wm "Ways.minute_of" = true)
    (k_wm : PySem.W.keepIn K (.ref f_wm) = true)
    (a_wl : PySem.W.findIn K (.ref CW) "late_behind" = some (some (.ref f_wl)))
    (i_wl : PySem.W.isFn K (.ref f_wl) = true)
    (l_wl : K.lookup f_wl = some ⟨oc_wl, od_wl, .func (PySem.W.fnOf "late_behind" "Ways.late_behind" (defArgs sLate) (defBody sLate) (defScope sLate) .none kV_wl dc_wl pm_wl an_wl cd_wl ct_wl), sl_wl⟩)
    (c_wl : PySem.W.codeIn K cd_wl "Ways.late_behind" = true)
    (k_wl : PySem.W.keepIn K (.ref f_wl) = true)
    (a_ci : PySem.W.findIn K (.ref CC) "__init__" = some (some (.ref f_ci)))
    (i_ci : PySem.W.isFn K (.ref f_ci) = true)
    (l_ci : K.lookup f_ci = some ⟨oc_ci, od_ci, .func (PySem.W.fnOf "__init__" "Chase.__init__" (defArgs sCInit) (defBody sCInit) (defScope sCInit) .none kV_ci dc_ci pm_ci an_ci cd_ci ct_ci), sl_ci⟩)
    (c_ci : PySem.W.codeIn K cd_ci "Chase.__init__" = true)
    (k_ci : PySem.W.keepIn K (.ref f_ci) = true)
    (a_ca : PySem.W.findIn K (.ref CC) "begin_anew" = some (some (.ref f_ca)))
    (i_ca : PySem.W.isFn K (.ref f_ca) = true)
    (l_ca : K.lookup f_ca = some ⟨oc_ca, od_ca, .func (PySem.W.fnOf "begin_anew" "Chase.begin_anew" (defArgs sAnew) (defBody sAnew) (defScope sAnew) .none kV_ca dc_ca pm_ca an_ca cd_ca ct_ca), sl_ca⟩)
    (c_ca : PySem.W.codeIn K cd_ca "Chase.begin_anew" = true)
    (k_ca : PySem.W.keepIn K (.ref f_ca) = true)
    (a_cb : PySem.W.findIn K (.ref CC) "begins" = some (some (.ref f_cb)))
    (i_cb : PySem.W.isFn K (.ref f_cb) = true)
    (l_cb : K.lookup f_cb = some ⟨oc_cb, od_cb, .func (PySem.W.fnOf "begins" "Chase.begins" (defArgs sBegins) (defBody sBegins) (defScope sBegins) .none kV_cb dc_cb pm_cb an_cb cd_cb ct_cb), sl_cb⟩)
    (c_cb : PySem.W.codeIn K cd_cb "Chase.begins" = true)
    (k_cb : PySem.W.keepIn K (.ref f_cb) = true)
    (a_cr : PySem.W.findIn K (.ref CC) "road" = some (some (.ref f_cr)))
    (i_cr : PySem.W.isFn K (.ref f_cr) = true)
    (l_cr : K.lookup f_cr = some ⟨oc_cr, od_cr, .func (PySem.W.fnOf "road" "Chase.road" (defArgs sRoad) (defBody sRoad) (defScope sRoad) .none kV_cr dc_cr pm_cr an_cr cd_cr ct_cr), sl_cr⟩)
    (c_cr : PySem.W.codeIn K cd_cr "Chase.road" = true)
    (k_cr : PySem.W.keepIn K (.ref f_cr) = true)
    (a_cm : PySem.W.findIn K (.ref CC) "may" = some (some (.ref f_cm)))
    (i_cm : PySem.W.isFn K (.ref f_cm) = true)
    (l_cm : K.lookup f_cm = some ⟨oc_cm, od_cm, .func (PySem.W.fnOf "may" "Chase.may" (defArgs sMay) (defBody sMay) (defScope sMay) .none kV_cm dc_cm pm_cm an_cm cd_cm ct_cm), sl_cm⟩)
    (c_cm : PySem.W.codeIn K cd_cm "Chase.may" = true)
    (k_cm : PySem.W.keepIn K (.ref f_cm) = true)
    (a_cn : PySem.W.findIn K (.ref CC) "news" = some (some (.ref f_cn)))
    (i_cn : PySem.W.isFn K (.ref f_cn) = true)
    (l_cn : K.lookup f_cn = some ⟨oc_cn, od_cn, .func (PySem.W.fnOf "news" "Chase.news" (defArgs sNews) (defBody sNews) (defScope sNews) .none kV_cn dc_cn pm_cn an_cn cd_cn ct_cn), sl_cn⟩)
    (c_cn : PySem.W.codeIn K cd_cn "Chase.news" = true)
    (k_cn : PySem.W.keepIn K (.ref f_cn) = true)
    (a_cl : PySem.W.findIn K (.ref CC) "last_news_minute" = some (some (.ref f_cl)))
    (i_cl : PySem.W.isFn K (.ref f_cl) = true)
    (l_cl : K.lookup f_cl = some ⟨oc_cl, od_cl, .func (PySem.W.fnOf "last_news_minute" "Chase.last_news_minute" (defArgs sLast) (defBody sLast) (defScope sLast) .none kV_cl dc_cl pm_cl an_cl cd_cl ct_cl), sl_cl⟩)
    (c_cl : PySem.W.codeIn K cd_cl "Chase.last_news_minute" = true)
    (k_cl : PySem.W.keepIn K (.ref f_cl) = true)
    (a_cf : PySem.W.findIn K (.ref CC) "far" = some (some (.ref f_cf)))
    (i_cf : PySem.W.isFn K (.ref f_cf) = true)
    (l_cf : K.lookup f_cf = some ⟨oc_cf, od_cf, .func (PySem.W.fnOf "far" "Chase.far" (defArgs sFar) (defBody sFar) (defScope sFar) .none kV_cf dc_cf pm_cf an_cf cd_cf ct_cf), sl_cf⟩)
    (c_cf : PySem.W.codeIn K cd_cf "Chase.far" = true)
    (k_cf : PySem.W.keepIn K (.ref f_cf) = true)
    (a_cw : PySem.W.findIn K (.ref CC) "worst" = some (some (.ref f_cw)))
    (i_cw : PySem.W.isFn K (.ref f_cw) = true)
    (l_cw : K.lookup f_cw = some ⟨oc_cw, od_cw, .func (PySem.W.fnOf "worst" "Chase.worst" (defArgs sWorst) (defBody sWorst) (defScope sWorst) .none kV_cw dc_cw pm_cw an_cw cd_cw ct_cw), sl_cw⟩)
    (c_cw : PySem.W.codeIn K cd_cw "Chase.worst" = true)
    (k_cw : PySem.W.keepIn K (.ref f_cw) = true)
    (a_cu : PySem.W.findIn K (.ref CC) "unknown" = some (some (.ref f_cu)))
    (i_cu : PySem.W.isFn K (.ref f_cu) = true)
    (l_cu : K.lookup f_cu = some ⟨oc_cu, od_cu, .func (PySem.W.fnOf "unknown" "Chase.unknown" (defArgs sUnknown) (defBody sUnknown) (defScope sUnknown) .none kV_cu dc_cu pm_cu an_cu cd_cu ct_cu), sl_cu⟩)
    (c_cu : PySem.W.codeIn K cd_cu "Chase.unknown" = true)
    (k_cu : PySem.W.keepIn K (.ref f_cu) = true)
    (a_ck : PySem.W.findIn K (.ref CC) "known" = some (some (.ref f_ck)))
    (i_ck : PySem.W.isFn K (.ref f_ck) = true)
    (l_ck : K.lookup f_ck = some ⟨oc_ck, od_ck, .func (PySem.W.fnOf "known" "Chase.known" (defArgs sKnown) (defBody sKnown) (defScope sKnown) .none kV_ck dc_ck pm_ck an_ck cd_ck ct_ck), sl_ck⟩)
    (c_ck : PySem.W.codeIn K cd_ck "Chase.known" = true)
    (k_ck : PySem.W.keepIn K (.ref f_ck) = true)
    (a_ce : PySem.W.findIn K (.ref CC) "least_without_news" = some (some (.ref f_ce)))
    (i_ce : PySem.W.isFn K (.ref f_ce) = true)
    (l_ce : K.lookup f_ce = some ⟨oc_ce, od_ce, .func (PySem.W.fnOf "least_without_news" "Chase.least_without_news" (defArgs sLeast) (defBody sLeast) (defScope sLeast) .none kV_ce dc_ce pm_ce an_ce cd_ce ct_ce), sl_ce⟩)
    (c_ce : PySem.W.codeIn K cd_ce "Chase.least_without_news" = true)
    (k_ce : PySem.W.keepIn K (.ref f_ce) = true)
    (a_cy : PySem.W.findIn K (.ref CC) "ways_with" = some (some (.ref f_cy)))
    (i_cy : PySem.W.isFn K (.ref f_cy) = true)
    (l_cy : K.lookup f_cy = some ⟨oc_cy, od_cy, .func (PySem.W.fnOf "ways_with" "Chase.ways_with" (defArgs sWays) (defBody sWays) (defScope sWays) .none kV_cy dc_cy pm_cy an_cy cd_cy ct_cy), sl_cy⟩)
    (c_cy : PySem.W.codeIn K cd_cy "Chase.ways_with" = true)
    (k_cy : PySem.W.keepIn K (.ref f_cy) = true)
    (a_cx : PySem.W.findIn K (.ref CC) "no_way_can_be" = some (some (.ref f_cx)))
    (i_cx : PySem.W.isFn K (.ref f_cx) = true)
    (l_cx : K.lookup f_cx = some ⟨oc_cx, od_cx, .func (PySem.W.fnOf "no_way_can_be" "Chase.no_way_can_be" (defArgs sNoWay) (defBody sNoWay) (defScope sNoWay) .none kV_cx dc_cx pm_cx an_cx cd_cx ct_cx), sl_cx⟩)
    (c_cx : PySem.W.codeIn K cd_cx "Chase.no_way_can_be" = true)
    (k_cx : PySem.W.keepIn K (.ref f_cx) = true)
    (pgCW : PySem.W.plainGet K CW Str.empty = true)
    (hdCW : PySem.W.hasDictIn K CW = true)
    (poCW : PySem.W.plainOver K CW = true)
    (saCW : PySem.W.findIn K (.ref CW) "__setattr__" = some (some (.builtin "object.__setattr__")))
    (mkCW : PySem.W.makesIn K CW = true)
    (kcCW : PySem.W.keepIn K (.ref CW) = true)
    (nDr : PySem.W.findIn K (.ref CW) "drives" = some none)
    (nLa : PySem.W.findIn K (.ref CW) "landing" = some none)
    (nNt : PySem.W.findIn K (.ref CW) "news_told" = some none)
    (pgCC : PySem.W.plainGet K CC Str.empty = true)
    (hdCC : PySem.W.hasDictIn K CC = true)
    (poCC : PySem.W.plainOver K CC = true)
    (saCC : PySem.W.findIn K (.ref CC) "__setattr__" = some (some (.builtin "object.__setattr__")))
    (mkCC : PySem.W.makesIn K CC = true)
    (kcCC : PySem.W.keepIn K (.ref CC) = true)
    (cPl : PySem.W.findIn K (.ref CC) "places" = some none)
    (cCa : PySem.W.findIn K (.ref CC) "car" = some none)
    (cLa : PySem.W.findIn K (.ref CC) "landing" = some none)
    (cLp : PySem.W.findIn K (.ref CC) "landing_places" = some none)
    (cRd : PySem.W.findIn K (.ref CC) "roads" = some none)
    (cNt : PySem.W.findIn K (.ref CC) "news_told" = some none)
    (v_gNo : PySem.W.nsIn K mainGlobals "NO_DRIVE" = some (some (.int 1000000 t_gNo)))
    (v_gMp : PySem.W.nsIn K mainGlobals "MOST_PLACES" = some (some (.int 6 t_gMp)))
    (v_gMr : PySem.W.nsIn K mainGlobals "MOST_ROADS" = some (some (.int 12 t_gMr)))
    (v_gMn : PySem.W.nsIn K mainGlobals "MOST_NEWS" = some (some (.int 3 t_gMn)))
    (v_gLl : PySem.W.nsIn K mainGlobals "LATEST_LANDING" = some (some (.int 1000 t_gLl)))
    (v_gLr : PySem.W.nsIn K mainGlobals "LONGEST_ROAD" = some (some (.int 1000 t_gLr)))
    (v_g0 : PySem.W.nsIn K mainGlobals "BEGINS" = some (some (.int 0 t_g0)))
    (v_g1 : PySem.W.nsIn K mainGlobals "ROAD" = some (some (.int 1 t_g1)))
    (v_g2 : PySem.W.nsIn K mainGlobals "MAY" = some (some (.int 2 t_g2)))
    (v_g3 : PySem.W.nsIn K mainGlobals "NEWS" = some (some (.int 3 t_g3)))
    (v_g4 : PySem.W.nsIn K mainGlobals "FAR" = some (some (.int 4 t_g4)))
    (v_g5 : PySem.W.nsIn K mainGlobals "WORST" = some (some (.int 5 t_g5)))
    (v_g6 : PySem.W.nsIn K mainGlobals "UNKNOWN" = some (some (.int 6 t_g6)))
    (v_g7 : PySem.W.nsIn K mainGlobals "KNOWN" = some (some (.int 7 t_g7)))
    (z_len : PySem.W.nsIn K mainGlobals "len" = some none)
    (z_range : PySem.W.nsIn K mainGlobals "range" = some none)
    (z_min : PySem.W.nsIn K mainGlobals "min" = some none)
    (z_max : PySem.W.nsIn K mainGlobals "max" = some none)
    (z_any : PySem.W.nsIn K mainGlobals "any" = some none)
    (z_list : PySem.W.nsIn K mainGlobals "list" = some none)
    : ∃ fd : FuncData, (∀ (s : Shared) (us : List Value), us.length = (["calls"] : List Str).length → BindsTo s fd ⟨us, []⟩ ((["calls"] : List Str).zip us)) ∧ ∀ base : Heap, K.In base → base.Ns mainGlobals mg → FnOk P w K mg base CX0 14 fa fd ["calls"] (spAnswers K) := by
  have e := hfa.symm.trans (PySem.W.mg_of X G a_an)
  cases e
  have T : Txt K mg CW CC := {
    clW := ⟨pgCW, hdCW, poCW, saCW⟩
    clC := ⟨pgCC, hdCC, poCC, saCC⟩
    nDr := nDr
    nLa := nLa
    nNt := nNt
    cPl := cPl
    cCa := cCa
    cLa := cLa
    cLp := cLp
    cRd := cRd
    cNt := cNt
    gW := PySem.W.mg_of X G aCW
    gC := PySem.W.mg_of X G aCC
    gNo := ⟨_, PySem.W.mg_of X G v_gNo⟩
    gMp := ⟨_, PySem.W.mg_of X G v_gMp⟩
    gMr := ⟨_, PySem.W.mg_of X G v_gMr⟩
    gMn := ⟨_, PySem.W.mg_of X G v_gMn⟩
    gLl := ⟨_, PySem.W.mg_of X G v_gLl⟩
    gLr := ⟨_, PySem.W.mg_of X G v_gLr⟩
    g0 := ⟨_, PySem.W.mg_of X G v_g0⟩
    g1 := ⟨_, PySem.W.mg_of X G v_g1⟩
    g2 := ⟨_, PySem.W.mg_of X G v_g2⟩
    g3 := ⟨_, PySem.W.mg_of X G v_g3⟩
    g4 := ⟨_, PySem.W.mg_of X G v_g4⟩
    g5 := ⟨_, PySem.W.mg_of X G v_g5⟩
    g6 := ⟨_, PySem.W.mg_of X G v_g6⟩
    g7 := ⟨_, PySem.W.mg_of X G v_g7⟩
    len := PySem.W.mg_none_of X G z_len
    range := PySem.W.mg_none_of X G z_range
    min := PySem.W.mg_none_of X G z_min
    max := PySem.W.mg_none_of X G z_max
    any := PySem.W.mg_none_of X G z_any
    list := PySem.W.mg_none_of X G z_list }
  have F_sh := fun_mk (st := sShort) l_sh c_sh k_sh
  have b_sh := F_sh.binds (ps := ["places", "roads"]) fun _ _ _ _ _ _ us hl => match us, hl with | [_, _], _ => rfl
  have F_st := fun_mk (st := sStraight) l_st c_st k_st
  have b_st := F_st.binds (ps := ["places", "roads"]) fun _ _ _ _ _ _ us hl => match us, hl with | [_, _], _ => rfl
  have F_pa := fun_mk (st := sParted) l_pa c_pa k_pa
  have b_pa := F_pa.binds (ps := ["landing_places", "parts"]) fun _ _ _ _ _ _ us hl => match us, hl with | [_, _], _ => rfl
  have F_an := fun_mk (st := sAnswers) l_an c_an k_an
  have F_ao := fun_mk (st := sAnswer) l_ao c_ao k_ao
  have b_ao := F_ao.binds (ps := ["chase", "call", "numbers"]) fun _ _ _ _ _ _ us hl => match us, hl with | [_, _, _], _ => rfl
  have F_wi := fun_mk (st := sWInit) l_wi c_wi k_wi
  have b_wi := F_wi.binds (ps := ["self", "drives", "landing", "news_told"]) fun _ _ _ _ _ _ us hl => match us, hl with | [_, _, _, _], _ => rfl
  have F_wb := fun_mk (st := sBest) l_wb c_wb k_wb
  have b_wb := F_wb.binds (ps := ["self", "car", "minute", "first_stop", "landing_places"]) fun _ _ _ _ _ _ us hl => match us, hl with | [_, _, _, _, _], _ => rfl
  have m_wb : Meth K CW "best" f_wb := ⟨a_wb, i_wb, k_wb⟩
  have F_wm := fun_mk (st := sMinute) l_wm c_wm k_wm
  have b_wm := F_wm.binds (ps := ["self", "stop"]) fun _ _ _ _ _ _ us hl => match us, hl with | [_, _], _ => rfl
  have m_wm : Meth K CW "minute_of" f_wm := ⟨a_wm, i_wm, k_wm⟩
  have F_wl := fun_mk (st := sLate) l_wl c_wl k_wl
  have b_wl := F_wl.binds (ps := ["self", "stop", "place", "landing_places"]) fun _ _ _ _ _ _ us hl => match us, hl with | [_, _, _, _], _ => rfl
  have m_wl : Meth K CW "late_behind" f_wl := ⟨a_wl, i_wl, k_wl⟩
  have F_ci := fun_mk (st := sCInit) l_ci c_ci k_ci
  have b_ci := F_ci.binds (ps := ["self"]) fun _ _ _ _ _ _ us hl => match us, hl with | [_], _ => rfl
  have F_ca := fun_mk (st := sAnew) l_ca c_ca k_ca
  have b_ca := F_ca.binds (ps := ["self", "places", "car", "landing"]) fun _ _ _ _ _ _ us hl => match us, hl with | [_, _, _, _], _ => rfl
  have m_ca : Meth K CC "begin_anew" f_ca := ⟨a_ca, i_ca, k_ca⟩
  have F_cb := fun_mk (st := sBegins) l_cb c_cb k_cb
  have b_cb := F_cb.binds (ps := ["self", "places", "car", "landing"]) fun _ _ _ _ _ _ us hl => match us, hl with | [_, _, _, _], _ => rfl
  have m_cb : Meth K CC "begins" f_cb := ⟨a_cb, i_cb, k_cb⟩
  have F_cr := fun_mk (st := sRoad) l_cr c_cr k_cr
  have b_cr := F_cr.binds (ps := ["self", "place", "other", "minutes"]) fun _ _ _ _ _ _ us hl => match us, hl with | [_, _, _, _], _ => rfl
  have m_cr : Meth K CC "road" f_cr := ⟨a_cr, i_cr, k_cr⟩
  have F_cm := fun_mk (st := sMay) l_cm c_cm k_cm
  have b_cm := F_cm.binds (ps := ["self", "places"]) fun _ _ _ _ _ _ us hl => match us, hl with | [_, _], _ => rfl
  have m_cm : Meth K CC "may" f_cm := ⟨a_cm, i_cm, k_cm⟩
  have F_cn := fun_mk (st := sNews) l_cn c_cn k_cn
  have b_cn := F_cn.binds (ps := ["self", "minute", "parts"]) fun _ _ _ _ _ _ us hl => match us, hl with | [_, _, _], _ => rfl
  have m_cn : Meth K CC "news" f_cn := ⟨a_cn, i_cn, k_cn⟩
  have F_cl := fun_mk (st := sLast) l_cl c_cl k_cl
  have b_cl := F_cl.binds (ps := ["self"]) fun _ _ _ _ _ _ us hl => match us, hl with | [_], _ => rfl
  have m_cl : Meth K CC "last_news_minute" f_cl := ⟨a_cl, i_cl, k_cl⟩
  have F_cf := fun_mk (st := sFar) l_cf c_cf k_cf
  have b_cf := F_cf.binds (ps := ["self", "place", "other"]) fun _ _ _ _ _ _ us hl => match us, hl with | [_, _, _], _ => rfl
  have m_cf : Meth K CC "far" f_cf := ⟨a_cf, i_cf, k_cf⟩
  have F_cw := fun_mk (st := sWorst) l_cw c_cw k_cw
  have b_cw := F_cw.binds (ps := ["self"]) fun _ _ _ _ _ _ us hl => match us, hl with | [_], _ => rfl
  have m_cw : Meth K CC "worst" f_cw := ⟨a_cw, i_cw, k_cw⟩
  have F_cu := fun_mk (st := sUnknown) l_cu c_cu k_cu
  have b_cu := F_cu.binds (ps := ["self"]) fun _ _ _ _ _ _ us hl => match us, hl with | [_], _ => rfl
  have m_cu : Meth K CC "unknown" f_cu := ⟨a_cu, i_cu, k_cu⟩
  have F_ck := fun_mk (st := sKnown) l_ck c_ck k_ck
  have b_ck := F_ck.binds (ps := ["self"]) fun _ _ _ _ _ _ us hl => match us, hl with | [_], _ => rfl
  have m_ck : Meth K CC "known" f_ck := ⟨a_ck, i_ck, k_ck⟩
  have F_ce := fun_mk (st := sLeast) l_ce c_ce k_ce
  have b_ce := F_ce.binds (ps := ["self", "landing_places"]) fun _ _ _ _ _ _ us hl => match us, hl with | [_, _], _ => rfl
  have m_ce : Meth K CC "least_without_news" f_ce := ⟨a_ce, i_ce, k_ce⟩
  have F_cy := fun_mk (st := sWays) l_cy c_cy k_cy
  have b_cy := F_cy.binds (ps := ["self", "news_told"]) fun _ _ _ _ _ _ us hl => match us, hl with | [_, _], _ => rfl
  have m_cy : Meth K CC "ways_with" f_cy := ⟨a_cy, i_cy, k_cy⟩
  have F_cx := fun_mk (st := sNoWay) l_cx c_cx k_cx
  have b_cx := F_cx.binds (ps := ["self"]) fun _ _ _ _ _ _ us hl => match us, hl with | [_], _ => rfl
  have m_cx : Meth K CC "no_way_can_be" f_cx := ⟨a_cx, i_cx, k_cx⟩
  refine ⟨PySem.W.fnOf "answers" "answers" (defArgs sAnswers) (defBody sAnswers) (defScope sAnswers) .none kV_an dc_an pm_an an_an cd_an ct_an, fun s us hu => match us, hu with | [_], _ => .of_eq rfl, fun base _ _ => ?_⟩
  have G_st := ok_straight (P := P) (w := w) (base := base) F_st T
  have G_sh := ok_short F_sh T G_st b_st k_st (PySem.W.mg_of X G a_st)
  have G_pa := ok_parted (P := P) (w := w) (base := base) F_pa T
  have G_wi := ok_winit (P := P) (w := w) (base := base) F_wi T
  have G_wm := ok_minute (P := P) (w := w) (base := base) F_wm T
  have G_wb : FnOk P w K mg base CX0 10 f_wb _ pBest (spBest CW 4) := (ok_both F_wb F_wl T b_wb m_wb b_wl m_wl G_wm b_wm m_wm G_pa b_pa k_pa (PySem.W.mg_of X G a_pa) 4).2
  have G_ca := ok_anew (P := P) (w := w) (base := base) F_ca T
  have G_ci := ok_cinit F_ci T G_ca b_ca m_ca
  have G_cb := ok_begins F_cb T G_ca b_ca m_ca
  have G_cr := ok_road (P := P) (w := w) (base := base) F_cr T
  have G_cm := ok_may (P := P) (w := w) (base := base) F_cm T
  have G_cl := ok_last (P := P) (w := w) (base := base) F_cl T
  have G_cn := ok_news F_cn T G_cl b_cl m_cl
  have G_cf := ok_far F_cf T G_sh b_sh k_sh (PySem.W.mg_of X G a_sh)
  have G_cy := ok_ways F_cy T G_sh b_sh k_sh (PySem.W.mg_of X G a_sh) ⟨mkCW, a_wi, i_wi, kcCW⟩ G_wi b_wi
  have G_ce := ok_least F_ce T G_cy b_cy m_cy G_wb b_wb m_wb
  have G_cx := ok_noway F_cx T G_cf b_cf m_cf
  have G_cw := ok_worst F_cw T G_cx b_cx m_cx G_cy b_cy m_cy G_wb b_wb m_wb
  have G_cu := ok_unknown F_cu T G_cx b_cx m_cx G_ce b_ce m_ce
  have G_ck := ok_known F_ck T G_cx b_cx m_cx G_ce b_ce m_ce
  have G_ao := ok_answer F_ao T ⟨m_cb, m_cr, m_cm, m_cn, m_cf, m_cw, m_cu, m_ck, b_cb, b_cr, b_cm, b_cn, b_cf, b_cw, b_cu, b_ck, G_cb, G_cr, G_cm, G_cn, G_cf, G_cw, G_cu, G_ck⟩
  exact ok_answers F_an T ⟨mkCC, a_ci, i_ci, kcCC⟩ G_ci b_ci G_ao b_ao k_ao (PySem.W.mg_of X G a_ao)
end Rb
open PySem PySem.W PyProof.Rows
set_option maxRecDepth 100000 in
set_option maxHeartbeats 8000000 in
theorem PySem.Challenge.cw_roadbehind_s01_answers_holds : PySem.Challenge.rw_roadbehind_s01_answers.Holds := by
  w_on; k_headS; (case hw => exact ⟨[.list [.int 5, .int 0, .int 0]], by decide +kernel, by decide +kernel⟩)
  k_fillS
  refine L2.walk_specK (r := PySem.Challenge.rw_roadbehind_s01_answers) (k := 14) (CX := L2.CX0) (ps := ["calls"]) (sp := Rb.spAnswers) (by decide +kernel) rfl rfl ⟨rfl, by decide, by decide⟩ (fun w h Y => PySem.W.kIn_of Y) ?F ?S (fun _ _ _ _ z => z)
  case F =>
    intro w mg fa h Y KX G hmg
    refine' Rb.all_mk KX G hmg ?aCW ?aCC ?a_sh ?l_sh ?c_sh ?k_sh ?a_st ?l_st ?c_st ?k_st ?a_pa ?l_pa ?c_pa ?k_pa ?a_an ?l_an ?c_an ?k_an ?a_ao ?l_ao ?c_ao ?k_ao ?a_wi ?i_wi ?l_wi ?c_wi ?k_wi ?a_wb ?i_wb ?l_wb ?c_wb ?k_wb ?a_wm ?i_wm ?l_wm ?c_wm ?k_wm ?a_wl ?i_wl ?l_wl ?c_wl ?k_wl ?a_ci ?i_ci ?l_ci ?c_ci ?k_ci ?a_ca ?i_ca ?l_ca ?c_ca ?k_ca ?a_cb ?i_cb ?l_cb ?c_cb ?k_cb ?a_cr ?i_cr ?l_cr ?c_cr ?k_cr ?a_cm ?i_cm ?l_cm ?c_cm ?k_cm ?a_cn ?i_cn ?l_cn ?c_cn ?k_cn ?a_cl ?i_cl ?l_cl ?c_cl ?k_cl ?a_cf ?i_cf ?l_cf ?c_cf ?k_cf ?a_cw ?i_cw ?l_cw ?c_cw ?k_cw ?a_cu ?i_cu ?l_cu ?c_cu ?k_cu ?a_ck ?i_ck ?l_ck ?c_ck ?k_ck ?a_ce ?i_ce ?l_ce ?c_ce ?k_ce ?a_cy ?i_cy ?l_cy ?c_cy ?k_cy ?a_cx ?i_cx ?l_cx ?c_cx ?k_cx ?pgCW ?hdCW ?poCW ?saCW ?mkCW ?kcCW ?nDr ?nLa ?nNt ?pgCC ?hdCC ?poCC ?saCC ?mkCC ?kcCC ?cPl ?cCa ?cLa ?cLp ?cRd ?cNt ?v_gNo ?v_gMp ?v_gMr ?v_gMn ?v_gLl ?v_gLr ?v_g0 ?v_g1 ?v_g2 ?v_g3 ?v_g4 ?v_g5 ?v_g6 ?v_g7 ?z_len ?z_range ?z_min ?z_max ?z_any ?z_list
    (case aCW => k_is)
    (case aCC => k_is)
    (case a_sh => k_is)
    (case l_sh => k_is)
    (case c_sh => k_is)
    (case k_sh => k_is)
    (case a_st => k_is)
    (case l_st => k_is)
    (case c_st => k_is)
    (case k_st => k_is)
    (case a_pa => k_is)
    (case l_pa => k_is)
    (case c_pa => k_is)
    (case k_pa => k_is)
    (case a_an => k_is)
    (case l_an => k_is)
    (case c_an => k_is)
    (case k_an => k_is)
    (case a_ao => k_is)
    (case l_ao => k_is)
    (case c_ao => k_is)
    (case k_ao => k_is)
    (case a_wi => k_is)
    (case i_wi => k_is)
    (case l_wi => k_is)
    (case c_wi => k_is)
    (case k_wi => k_is)
    (case a_wb => k_is)
    (case i_wb => k_is)
    (case l_wb => k_is)
    (case c_wb => k_is)
    (case k_wb => k_is)
    (case a_wm => k_is)
    (case i_wm => k_is)
    (case l_wm => k_is)
    (case c_wm => k_is)
    (case k_wm => k_is)
    (case a_wl => k_is)
    (case i_wl => k_is)
    (case l_wl => k_is)
    (case c_wl => k_is)
    (case k_wl => k_is)
    (case a_ci => k_is)
    (case i_ci => k_is)
    (case l_ci => k_is)
    (case c_ci => k_is)
    (case k_ci => k_is)
    (case a_ca => k_is)
    (case i_ca => k_is)
    (case l_ca => k_is)
    (case c_ca => k_is)
    (case k_ca => k_is)
    (case a_cb => k_is)
    (case i_cb => k_is)
    (case l_cb => k_is)
    (case c_cb => k_is)
    (case k_cb => k_is)
    (case a_cr => k_is)
    (case i_cr => k_is)
    (case l_cr => k_is)
    (case c_cr => k_is)
    (case k_cr => k_is)
    (case a_cm => k_is)
    (case i_cm => k_is)
    (case l_cm => k_is)
    (case c_cm => k_is)
    (case k_cm => k_is)
    (case a_cn => k_is)
    (case i_cn => k_is)
    (case l_cn => k_is)
    (case c_cn => k_is)
    (case k_cn => k_is)
    (case a_cl => k_is)
    (case i_cl => k_is)
    (case l_cl => k_is)
    (case c_cl => k_is)
    (case k_cl => k_is)
    (case a_cf => k_is)
    (case i_cf => k_is)
    (case l_cf => k_is)
    (case c_cf => k_is)
    (case k_cf => k_is)
    (case a_cw => k_is)
    (case i_cw => k_is)
    (case l_cw => k_is)
    (case c_cw => k_is)
    (case k_cw => k_is)
    (case a_cu => k_is)
    (case i_cu => k_is)
    (case l_cu => k_is)
    (case c_cu => k_is)
    (case k_cu => k_is)
    (case a_ck => k_is)
    (case i_ck => k_is)
    (case l_ck => k_is)
    (case c_ck => k_is)
    (case k_ck => k_is)
    (case a_ce => k_is)
    (case i_ce => k_is)
    (case l_ce => k_is)
    (case c_ce => k_is)
    (case k_ce => k_is)
    (case a_cy => k_is)
    (case i_cy => k_is)
    (case l_cy => k_is)
    (case c_cy => k_is)
    (case k_cy => k_is)
    (case a_cx => k_is)
    (case i_cx => k_is)
    (case l_cx => k_is)
    (case c_cx => k_is)
    (case k_cx => k_is)
    (case pgCW => k_is)
    (case hdCW => k_is)
    (case poCW => k_is)
    (case saCW => k_is)
    (case mkCW => k_is)
    (case kcCW => k_is)
    (case nDr => k_is)
    (case nLa => k_is)
    (case nNt => k_is)
    (case pgCC => k_is)
    (case hdCC => k_is)
    (case poCC => k_is)
    (case saCC => k_is)
    (case mkCC => k_is)
    (case kcCC => k_is)
    (case cPl => k_is)
    (case cCa => k_is)
    (case cLa => k_is)
    (case cLp => k_is)
    (case cRd => k_is)
    (case cNt => k_is)
    (case v_gNo => k_is)
    (case v_gMp => k_is)
    (case v_gMr => k_is)
    (case v_gMn => k_is)
    (case v_gLl => k_is)
    (case v_gLr => k_is)
    (case v_g0 => k_is)
    (case v_g1 => k_is)
    (case v_g2 => k_is)
    (case v_g3 => k_is)
    (case v_g4 => k_is)
    (case v_g5 => k_is)
    (case v_g6 => k_is)
    (case v_g7 => k_is)
    (case z_len => k_is)
    (case z_range => k_is)
    (case z_min => k_is)
    (case z_max => k_is)
    (case z_any => k_is)
    (case z_list => k_is)
  case S =>
    intro K H xs a hO hwi hask hx
    cases hx with
    | cons h1 h2 =>
      cases h2
      cases h1 with
      | lst hs ha =>
        have e := L2.ints_dw a.1 _ ha
        subst e
        have q : ((Codec.inLen 0 3000 a.1 && a.1.all (Codec.inInt 0 4294967295)) && true) = true := hwi
        rw [Bool.and_eq_true, Bool.and_eq_true] at q
        exact ⟨_, a.1, rfl, hs, (Codec.inNat_iff.mp q.1.1).2, hask, fun H' p hp => .lst (L2.SqL.of hp) (L2.dw_ints _)⟩
#print axioms PySem.Challenge.cw_roadbehind_s01_answers_holds

