import PyProof.Rows.All
import Wide.All
import OpenK.AllK
import Wide.FinOn
import PyProof.EqAt
import PyProof.EqKinds
import PyProof.TupleCall
import PyProof.ReprRoads
import HandS.ForMost
import HandS.Exc
import HandS.TryOnly
import HandS.ExcOwn
import HandS.WordsExc
import HandS.IsInst
import HandS.ExcIs
import HandS.FStr
import HandS.RaiseMore
import HandS.Wide
import HandS.Zip
import HandS.NoneIn
import HandS.Codes
import HandS.Gcd
import HandS.EndBits
import HandS.Walk
import HandS.Style
import KE.GoesMore
import KE.GoesZip
import PyProof.StrOps2
import HandS.HotCalls
import KE.KSortKeySt
import PyProof.Rows.SortShellAny
import HandS.SortKw
import HandS.SortInts
import HandS.SortRule
import HandS.Keys
import HandS.DictComp
import HandS.TryMany
import HandS.Conv
import HandS.ListItems
import HandS.Sort
import HandS.WideBits
import PySem.Challenge.RW_foldfloor_k19_distances_and_tiles_betwee
set_option Elab.async false
set_option linter.all false
set_option maxRecDepth 100000
set_option maxHeartbeats 8000000
/-! Words of three letters, turns and cuts: what leads where, lengths, parities. -/
namespace Cox
abbrev W := List (Fin 3)
/-- two letters in turns -/
def alt (i j : Fin 3) : Nat → W
  | 0 => []
  | n + 1 => i :: alt j i n
theorem alt_length (i j : Fin 3) (n : Nat) : (alt i j n).length = n := by
  induction n generalizing i j with
  | zero => rfl
  | succ n ih => rw [alt, List.length_cons, ih]
/-- the n-th letter in turns -/
def nth (i j : Fin 3) (n : Nat) : Fin 3 := if n % 2 = 0 then i else j
theorem nth_succ (i j : Fin 3) (n : Nat) : nth i j (n + 1) = nth j i n := by
  unfold nth
  by_cases h : n % 2 = 0
  · rw [if_pos h, if_neg (by omega)]
  · rw [if_neg h, if_pos (by omega)]
theorem alt_snoc (i j : Fin 3) (n : Nat) : alt i j (n + 1) = alt i j n ++ [nth i j n] := by
  induction n generalizing i j with
  | zero => rfl
  | succ n ih =>
    show i :: alt j i (n + 1) = i :: alt j i n ++ [nth i j (n + 1)]
    rw [ih, nth_succ]
    rfl
theorem alt_reverse (i j : Fin 3) (n : Nat) : (alt i j n).reverse = if n % 2 = 0 then alt j i n else alt i j n := by
  induction n generalizing i j with
  | zero => rfl
  | succ n ih =>
    have e : (alt i j (n + 1)).reverse = nth i j n :: (alt i j n).reverse := by
      rw [alt_snoc, List.reverse_append]
      rfl
    rw [e, ih]
    by_cases h : n % 2 = 0
    · rw [if_pos h, if_neg (by omega), nth, if_pos h]
      rfl
    · rw [if_neg h, if_pos (by omega), nth, if_neg h]
      rfl
section
variable (m : Fin 3 → Fin 3 → Nat)
/-- a cut or a turn -/
inductive Step : W → W → Prop
  | cut (u v : W) (i : Fin 3) : Step (u ++ i :: i :: v) (u ++ v)
  | turn (u v : W) (i j : Fin 3) (h : i ≠ j) (h0 : m i j ≠ 0) : Step (u ++ (alt i j (m i j) ++ v)) (u ++ (alt j i (m i j) ++ v))
/-- they lead to the same tile -/
inductive Eqv : W → W → Prop
  | refl (u : W) : Eqv u u
  | step {u v : W} : Step m u v → Eqv u v
  | symm {u v : W} : Eqv u v → Eqv v u
  | trans {u v w : W} : Eqv u v → Eqv v w → Eqv u w
end
variable {m : Fin 3 → Fin 3 → Nat}
theorem Step.app {u v : W} (h : Step m u v) (x y : W) : Step m (x ++ u ++ y) (x ++ v ++ y) := by
  cases h with
  | cut u v i =>
    have := Step.cut (m := m) (x ++ u) (v ++ y) i
    simpa using this
  | turn u v i j h h0 =>
    have := Step.turn (m := m) (x ++ u) (v ++ y) i j h h0
    simpa using this
theorem Eqv.app {u v : W} (h : Eqv m u v) (x y : W) : Eqv m (x ++ u ++ y) (x ++ v ++ y) := by
  induction h with
  | refl u => exact .refl _
  | step h => exact .step (h.app x y)
  | symm _ ih => exact ih.symm
  | trans _ _ ih1 ih2 => exact ih1.trans ih2
theorem Eqv.left {u v : W} (h : Eqv m u v) (x : W) : Eqv m (x ++ u) (x ++ v) := by
  have := h.app x []
  rwa [List.append_nil, List.append_nil] at this
theorem Eqv.right {u v : W} (h : Eqv m u v) (y : W) : Eqv m (u ++ y) (v ++ y) := h.app [] y
theorem Eqv.mul {u v x y : W} (h : Eqv m u v) (k : Eqv m x y) : Eqv m (u ++ x) (v ++ y) := (h.right x).trans (k.left v)
theorem Eqv.parity {u v : W} (h : Eqv m u v) : u.length % 2 = v.length % 2 := by
  induction h with
  | refl u => rfl
  | step h =>
    cases h with
    | cut u v i => simp only [List.length_append, List.length_cons]; omega
    | turn u v i j h h0 => simp only [List.length_append, alt_length]
  | symm _ ih => exact ih.symm
  | trans _ _ ih1 ih2 => exact ih1.trans ih2
theorem Eqv.cancel (i : Fin 3) : Eqv m [i, i] [] := .step (.cut [] [] i)
theorem Eqv.inv_right (u : W) : Eqv m (u ++ u.reverse) [] := by
  induction u with
  | nil => exact .refl _
  | cons i u ih =>
    rw [List.reverse_cons]
    have h := ih.app [i] [i]
    have h2 : Eqv m ([i] ++ [] ++ [i]) [] := .cancel i
    have e : i :: u ++ (u.reverse ++ [i]) = [i] ++ (u ++ u.reverse) ++ [i] := by simp
    rw [e]
    exact h.trans h2
theorem Eqv.inv_left (u : W) : Eqv m (u.reverse ++ u) [] := by
  have := Eqv.inv_right (m := m) u.reverse
  rwa [List.reverse_reverse] at this
/-- inverses of what leads to the same tile do so -/
theorem Eqv.rev {u v : W} (h : Eqv m u v) : Eqv m u.reverse v.reverse := by
  have h1 : Eqv m (u.reverse ++ (v ++ v.reverse)) (u.reverse ++ []) := (Eqv.inv_right v).left _
  have h2 : Eqv m (u.reverse ++ u ++ v.reverse) (u.reverse ++ v ++ v.reverse) := h.app _ _
  have h3 : Eqv m (u.reverse ++ u ++ v.reverse) ([] ++ v.reverse) := (Eqv.inv_left u).right _
  rw [List.append_nil] at h1
  rw [← List.append_assoc] at h1
  exact h1.symm.trans (h2.symm.trans h3)
theorem Eqv.cancel_right {u v x : W} (h : Eqv m (u ++ x) (v ++ x)) : Eqv m u v := by
  have h1 := h.right x.reverse
  have e : ∀ z : W, Eqv m (z ++ x ++ x.reverse) z := fun z => by
    have := (Eqv.inv_right (m := m) x).left z
    rwa [List.append_nil, ← List.append_assoc] at this
  exact (e u).symm.trans (h1.trans (e v))
theorem Eqv.cancel_left {u v x : W} (h : Eqv m (x ++ u) (x ++ v)) : Eqv m u v := by
  have h1 := h.left x.reverse
  have e : ∀ z : W, Eqv m (x.reverse ++ (x ++ z)) z := fun z => by
    have := (Eqv.inv_left (m := m) x).right z
    rwa [List.append_assoc] at this
  exact (e u).symm.trans (h1.trans (e v))
/-! lengths of tiles -/
theorem least_ex (w : W) : ∃ n : Nat, (∃ u, Eqv m w u ∧ u.length = n) ∧ ∀ u, Eqv m w u → n ≤ u.length := by
  have : ∀ k : Nat, ∀ u, Eqv m w u → u.length ≤ k → ∃ n : Nat, (∃ u, Eqv m w u ∧ u.length = n) ∧ ∀ u, Eqv m w u → n ≤ u.length := by
    intro k
    induction k with
    | zero => exact fun u hu hl => ⟨0, ⟨u, hu, by omega⟩, fun _ _ => Nat.zero_le _⟩
    | succ k ih =>
      intro u hu hl
      by_cases c : ∃ v, Eqv m w v ∧ v.length ≤ k
      · obtain ⟨v, hv, hvl⟩ := c
        exact ih v hv hvl
      · refine ⟨k + 1, ⟨u, hu, ?_⟩, fun v hv => ?_⟩
        · have : ¬ u.length ≤ k := fun z => c ⟨u, hu, z⟩
          omega
        · have : ¬ v.length ≤ k := fun z => c ⟨v, hv, z⟩
          omega
  exact this w.length w (.refl w) (Nat.le_refl _)
noncomputable def ln (m : Fin 3 → Fin 3 → Nat) (w : W) : Nat := Classical.choose (least_ex (m := m) w)
theorem ln_ex (w : W) : ∃ u, Eqv m w u ∧ u.length = ln m w := (Classical.choose_spec (least_ex (m := m) w)).1
theorem ln_le {w u : W} (h : Eqv m w u) : ln m w ≤ u.length := (Classical.choose_spec (least_ex (m := m) w)).2 u h
theorem ln_self (w : W) : ln m w ≤ w.length := ln_le (.refl w)
theorem ln_eqv {w u : W} (h : Eqv m w u) : ln m w = ln m u := by
  obtain ⟨v, hv, h1⟩ := ln_ex (m := m) w
  obtain ⟨x, hx, h2⟩ := ln_ex (m := m) u
  have a := ln_le (h.trans hx)
  have b := ln_le (h.symm.trans hv)
  omega
/-- a shortest word -/
def Red (m : Fin 3 → Fin 3 → Nat) (w : W) : Prop := ln m w = w.length
theorem red_ex (w : W) : ∃ u, Eqv m w u ∧ Red m u := by
  obtain ⟨u, hu, h⟩ := ln_ex (m := m) w
  exact ⟨u, hu, by rw [Red, ← ln_eqv hu, h]⟩
theorem ln_parity (w : W) : ln m w % 2 = w.length % 2 := by
  obtain ⟨u, hu, h⟩ := ln_ex (m := m) w
  rw [← h, hu.parity]
theorem ln_append (u v : W) : ln m (u ++ v) ≤ ln m u + ln m v := by
  obtain ⟨x, hx, h1⟩ := ln_ex (m := m) u
  obtain ⟨y, hy, h2⟩ := ln_ex (m := m) v
  have := ln_le (hx.mul hy)
  rw [List.length_append] at this
  omega
theorem ln_reverse (w : W) : ln m w.reverse = ln m w := by
  have one : ∀ w : W, ln m w.reverse ≤ ln m w := fun w => by
    obtain ⟨u, hu, h⟩ := ln_ex (m := m) w
    have := ln_le hu.rev
    rw [List.length_reverse] at this
    omega
  have a := one w
  have b := one w.reverse
  rw [List.reverse_reverse] at b
  omega
theorem snoc_snoc (w : W) (i : Fin 3) : Eqv m (w ++ [i] ++ [i]) w := by
  have := (Eqv.cancel (m := m) i).left w
  rw [List.append_nil] at this
  rwa [List.append_assoc]
theorem ln_snoc (w : W) (i : Fin 3) : ln m (w ++ [i]) = ln m w + 1 ∨ ln m w = ln m (w ++ [i]) + 1 := by
  have a := ln_append (m := m) w [i]
  have b := ln_append (m := m) (w ++ [i]) [i]
  rw [ln_eqv (snoc_snoc w i)] at b
  have c : ln m [i] ≤ 1 := ln_self [i]
  have p := ln_parity (m := m) w
  have q := ln_parity (m := m) (w ++ [i])
  rw [List.length_append, List.length_singleton] at q
  omega
/-- parts of shortest words are shortest -/
theorem Red.part {u v : W} (h : Red m (u ++ v)) : Red m u ∧ Red m v := by
  have a := ln_append (m := m) u v
  have b := ln_self (m := m) u
  have c := ln_self (m := m) v
  unfold Red at *
  rw [h, List.length_append] at a
  omega
theorem red_snoc {w : W} {i : Fin 3} (h : Red m w) : Red m (w ++ [i]) ↔ ln m (w ++ [i]) = ln m w + 1 := by
  unfold Red at *
  rw [List.length_append, List.length_singleton, h]
end Cox

/-! Roots: how words act on triples, over any commutative ring; turns and cuts change nothing. -/
namespace Cox
open Lean.Grind
section
variable {R : Type} [CommRing R]
abbrev V3 (R : Type) := Fin 3 → R
def bump (i : Fin 3) (t : R) (v : V3 R) : V3 R := fun k => if k = i then v k + t else v k
def dot (c : Fin 3 → Fin 3 → R) (i : Fin 3) (v : V3 R) : R := c i 0 * v 0 + c i 1 * v 1 + c i 2 * v 2
def act (c : Fin 3 → Fin 3 → R) (i : Fin 3) (v : V3 R) : V3 R := bump i (dot c i v) v
/-- a word acts, its last letter first -/
def actw (c : Fin 3 → Fin 3 → R) (w : W) (v : V3 R) : V3 R := w.foldr (act c) v
theorem actw_append (c : Fin 3 → Fin 3 → R) (u w : W) (v : V3 R) : actw c (u ++ w) v = actw c u (actw c w v) := List.foldr_append
theorem dot_bump (c : Fin 3 → Fin 3 → R) (i j : Fin 3) (t : R) (v : V3 R) : dot c i (bump j t v) = dot c i v + c i j * t := by
  have h : j = 0 ∨ j = 1 ∨ j = 2 := by
    rcases j with ⟨j, hj⟩
    have : j = 0 ∨ j = 1 ∨ j = 2 := by omega
    rcases this with rfl | rfl | rfl
    · exact .inl rfl
    · exact .inr (.inl rfl)
    · exact .inr (.inr rfl)
  unfold dot bump
  rcases h with rfl | rfl | rfl
  · rw [if_pos rfl, if_neg (by decide), if_neg (by decide)]; grind
  · rw [if_neg (by decide), if_pos rfl, if_neg (by decide)]; grind
  · rw [if_neg (by decide), if_neg (by decide), if_pos rfl]; grind
theorem bump_bump (i : Fin 3) (s t : R) (v : V3 R) : bump i s (bump i t v) = bump i (t + s) v := by
  funext k
  unfold bump
  by_cases h : k = i
  · rw [if_pos h, if_pos h, if_pos h]; grind
  · rw [if_neg h, if_neg h, if_neg h]
theorem bump_comm {i j : Fin 3} (hij : i ≠ j) (s t : R) (v : V3 R) : bump i s (bump j t v) = bump j t (bump i s v) := by
  funext k
  unfold bump
  by_cases h : k = i
  · have h2 : k ≠ j := fun z => hij (h.symm.trans z)
    rw [if_pos h, if_neg h2, if_neg h2, if_pos h]
  · rw [if_neg h]
    by_cases h2 : k = j
    · rw [if_pos h2, if_pos h2, if_neg h]
    · rw [if_neg h2, if_neg h2, if_neg h]
theorem bump_zero (i : Fin 3) (v : V3 R) : bump i 0 v = v := by
  funext k
  unfold bump
  by_cases h : k = i
  · rw [if_pos h]; grind
  · rw [if_neg h]
variable {c : Fin 3 → Fin 3 → R}
theorem act_act (h2 : ∀ i, c i i = -2) (i : Fin 3) (v : V3 R) : act c i (act c i v) = v := by
  unfold act
  rw [dot_bump, h2, bump_bump]
  have : dot c i v + (dot c i v + -2 * dot c i v) = 0 := by grind
  rw [this, bump_zero]
/-- a multiple of the i-th and of the j-th put to it -/
def st (i j : Fin 3) (p q : R) (v : V3 R) : V3 R := bump i p (bump j q v)
theorem act_st1 (h2 : ∀ i, c i i = -2) {i j : Fin 3} (p q : R) (v : V3 R) : act c i (st i j p q v) = st i j (dot c i v - p + c i j * q) q v := by
  unfold act st
  rw [dot_bump, dot_bump, h2, bump_bump]
  congr 1
  grind
theorem act_st2 (h2 : ∀ i, c i i = -2) {i j : Fin 3} (hij : i ≠ j) (p q : R) (v : V3 R) : act c j (st i j p q v) = st i j p (dot c j v - q + c j i * p) v := by
  unfold st
  rw [bump_comm hij]
  have := act_st1 h2 (i := j) (j := i) q p v
  unfold st at this
  rw [this, bump_comm hij]
/-- U 0 = 1, U 1 = b, then b times the last one less the one before -/
def U (b : R) : Nat → R
  | 0 => 1
  | 1 => b
  | k + 2 => b * U b (k + 1) - U b k
/-- the coordinate that the k-th letter in turns makes -/
def zs (b x y : R) : Nat → R
  | 0 => 0
  | 1 => x
  | k + 2 => (if k % 2 = 0 then y else x) - zs b x y k + b * zs b x y (k + 1)
theorem zs_diff (b x y : R) : ∀ k : Nat, zs b x y (k + 1) = zs b y x k + U b k * x
  | 0 => by
    show x = 0 + 1 * x
    grind
  | 1 => by
    show (if 0 % 2 = 0 then y else x) - 0 + b * x = y + b * x
    rw [if_pos rfl]
    grind
  | k + 2 => by
    have h1 := zs_diff b x y k
    have h2 := zs_diff b x y (k + 1)
    show (if (k + 1) % 2 = 0 then y else x) - zs b x y (k + 1) + b * zs b x y (k + 2) = (if k % 2 = 0 then x else y) - zs b y x k + b * zs b y x (k + 1) + (b * U b (k + 1) - U b k) * x
    by_cases e : k % 2 = 0
    · rw [if_neg (by omega), if_pos e]
      grind
    · rw [if_pos (by omega), if_neg e]
      grind
/-- letters act, the first one first -/
def actl (c : Fin 3 → Fin 3 → R) (w : W) (v : V3 R) : V3 R := w.foldl (fun v i => act c i v) v
theorem actl_reverse (w : W) (v : V3 R) : actl c w.reverse v = actw c w v := by
  unfold actl actw
  rw [List.foldl_reverse]
theorem actl_alt (h2 : ∀ i, c i i = -2) (hs : ∀ i j, c i j = c j i) {i j : Fin 3} (hij : i ≠ j) (v : V3 R) : ∀ k : Nat, actl c (alt i j k) v = if k % 2 = 0 then st i j (zs (c i j) (dot c i v) (dot c j v) (k - 1)) (zs (c i j) (dot c i v) (dot c j v) k) v else st i j (zs (c i j) (dot c i v) (dot c j v) k) (zs (c i j) (dot c i v) (dot c j v) (k - 1)) v
  | 0 => by
    show v = st i j 0 0 v
    unfold st
    rw [bump_zero, bump_zero]
  | 1 => by
    show act c i v = st i j (dot c i v) 0 v
    unfold st
    rw [bump_zero]
    rfl
  | k + 2 => by
    have ih := actl_alt h2 hs hij v (k + 1)
    rw [alt_snoc]
    unfold actl at ih ⊢
    rw [List.foldl_append, ih]
    show act c (nth i j (k + 1)) _ = _
    by_cases e : k % 2 = 0
    · rw [if_neg (by omega), if_pos (by omega), nth, if_neg (by omega), act_st2 h2 hij]
      show st i j _ (dot c j v - zs _ _ _ k + c j i * zs _ _ _ (k + 1)) v = st i j _ ((if k % 2 = 0 then dot c j v else dot c i v) - zs _ _ _ k + c i j * zs _ _ _ (k + 1)) v
      rw [if_pos e, hs j i]
      rfl
    · rw [if_pos (by omega), if_neg (by omega), nth, if_pos (by omega), act_st1 h2]
      show st i j (dot c i v - zs _ _ _ k + c i j * zs _ _ _ (k + 1)) _ v = st i j ((if k % 2 = 0 then dot c j v else dot c i v) - zs _ _ _ k + c i j * zs _ _ _ (k + 1)) _ v
      rw [if_neg e]
      rfl
theorem st_comm {i j : Fin 3} (hij : i ≠ j) (p q : R) (v : V3 R) : st i j p q v = st j i q p v := bump_comm hij _ _ _
theorem braid (h2 : ∀ i, c i i = -2) (hs : ∀ i j, c i j = c j i) {i j : Fin 3} (hij : i ≠ j) (v : V3 R) {n : Nat} (hU : U (c i j) n = 0) : actl c (alt i j (n + 1)) v = actl c (alt j i (n + 1)) v := by
  rw [actl_alt h2 hs hij, actl_alt h2 hs hij.symm, hs j i]
  have e1 := zs_diff (c i j) (dot c i v) (dot c j v) n
  have e2 := zs_diff (c i j) (dot c j v) (dot c i v) n
  rw [hU] at e1 e2
  have e3 : zs (c i j) (dot c i v) (dot c j v) (n + 1) = zs (c i j) (dot c j v) (dot c i v) n := by rw [e1]; grind
  have e4 : zs (c i j) (dot c j v) (dot c i v) (n + 1) = zs (c i j) (dot c i v) (dot c j v) n := by rw [e2]; grind
  rw [Nat.add_sub_cancel]
  by_cases e : (n + 1) % 2 = 0
  · rw [if_pos e, if_pos e, st_comm hij, e3, e4]
  · rw [if_neg e, if_neg e, st_comm hij, e3, e4]
/-- what the numbers c are to the orders -/
structure Geo (m : Fin 3 → Fin 3 → Nat) (c : Fin 3 → Fin 3 → R) : Prop where
  two : ∀ i, c i i = -2
  sym : ∀ i j, c i j = c j i
  msym : ∀ i j, m i j = m j i
  zero : ∀ i j n, i ≠ j → m i j = n + 1 → U (c i j) n = 0
variable {m : Fin 3 → Fin 3 → Nat}
theorem Geo.step (G : Geo m c) {u w : W} (h : Step m u w) (v : V3 R) : actw c u v = actw c w v := by
  cases h with
  | cut u x i =>
    rw [actw_append, actw_append]
    show actw c u (act c i (act c i (actw c x v))) = _
    rw [act_act G.two]
  | turn u x i j h h0 =>
    rw [actw_append, actw_append, actw_append, actw_append]
    congr 1
    obtain ⟨n, hn⟩ : ∃ n, m i j = n + 1 := ⟨m i j - 1, by omega⟩
    have b := braid G.two G.sym h (actw c x v) (G.zero i j n h hn)
    have r1 : ∀ (w : W) (z : V3 R), actw c w z = actl c w.reverse z := fun w z => (actl_reverse w z).symm
    rw [r1 (alt i j _), r1 (alt j i _), alt_reverse, alt_reverse, hn]
    by_cases e : (n + 1) % 2 = 0
    · rw [if_pos e, if_pos e]
      exact b.symm
    · rw [if_neg e, if_neg e]
      exact b
theorem Geo.eqv (G : Geo m c) {u w : W} (h : Eqv m u w) (v : V3 R) : actw c u v = actw c w v := by
  induction h with
  | refl u => rfl
  | step h => exact G.step h v
  | symm _ ih => exact ih.symm
  | trans _ _ ih1 ih2 => exact ih1.trans ih2
/-- the root of a mirror of the first tile -/
def e (i : Fin 3) : V3 R := fun k => if k = i then 1 else 0
end
end Cox

/-! Over a linear ordered ring: behind a longer tile a root is positive. -/
namespace Cox
open Lean.Grind
section
variable {R : Type} [CommRing R]
def lc (p : R) (x : V3 R) (q : R) (y : V3 R) : V3 R := fun k => p * x k + q * y k
theorem act_lc (c : Fin 3 → Fin 3 → R) (i : Fin 3) (p q : R) (x y : V3 R) : act c i (lc p x q y) = lc p (act c i x) q (act c i y) := by
  funext k
  unfold act bump lc dot
  by_cases h : k = i
  · simp only [if_pos h]; grind
  · simp only [if_neg h]
theorem actw_lc (c : Fin 3 → Fin 3 → R) (w : W) (p q : R) (x y : V3 R) : actw c w (lc p x q y) = lc p (actw c w x) q (actw c w y) := by
  induction w with
  | nil => rfl
  | cons i w ih =>
    show act c i (actw c w _) = lc p (act c i (actw c w x)) q (act c i (actw c w y))
    rw [ih, act_lc]
/-- U, one earlier -/
def Up (b : R) : Nat → R
  | 0 => 0
  | k + 1 => U b k
theorem U_succ (b : R) : ∀ k : Nat, U b (k + 1) = b * U b k - Up b k
  | 0 => by show b = b * 1 - 0; grind
  | k + 1 => rfl
variable {m : Fin 3 → Fin 3 → Nat} {c : Fin 3 → Fin 3 → R}
/-- two letters in turns act on the root of the one -/
theorem actl_root (G : Geo m c) {s t : Fin 3} (hst : s ≠ t) : ∀ k : Nat, actl c (alt t s k) (e s) = if k % 2 = 0 then lc (U (c s t) k) (e s) (Up (c s t) k) (e t) else lc (Up (c s t) k) (e s) (U (c s t) k) (e t)
  | 0 => by
    show e s = lc 1 (e s) 0 (e t)
    funext k
    unfold lc
    grind
  | k + 1 => by
    have ih := actl_root G hst k
    have ds : ∀ i : Fin 3, act c i (e i) = fun k => if k = i then (-1 : R) else 0 := fun i => by
      funext k
      unfold act bump e dot
      have h3 : i = 0 ∨ i = 1 ∨ i = 2 := by
        rcases i with ⟨i, hi⟩
        have : i = 0 ∨ i = 1 ∨ i = 2 := by omega
        rcases this with rfl | rfl | rfl
        · exact .inl rfl
        · exact .inr (.inl rfl)
        · exact .inr (.inr rfl)
      have h2 := G.two i
      by_cases hk : k = i
      · subst hk
        rcases h3 with rfl | rfl | rfl <;> simp <;> grind
      · simp only [if_neg hk]
    have dt : ∀ i j : Fin 3, i ≠ j → act c i (e j) = fun k => if k = j then (1 : R) else if k = i then c i j else 0 := fun i j hij => by
      funext k
      unfold act bump e dot
      have h3 : j = 0 ∨ j = 1 ∨ j = 2 := by
        rcases j with ⟨j, hj⟩
        have : j = 0 ∨ j = 1 ∨ j = 2 := by omega
        rcases this with rfl | rfl | rfl
        · exact .inl rfl
        · exact .inr (.inl rfl)
        · exact .inr (.inr rfl)
      by_cases hk : k = i
      · have hkj : k ≠ j := fun z => hij (hk.symm.trans z)
        rw [if_pos hk, if_neg hkj, if_neg hkj, if_pos hk]
        rcases h3 with rfl | rfl | rfl <;> simp <;> grind
      · rw [if_neg hk]
        by_cases hkj : k = j
        · rw [if_pos hkj, if_pos hkj]
        · rw [if_neg hkj, if_neg hkj, if_neg hk]
    rw [alt_snoc]
    unfold actl at ih ⊢
    rw [List.foldl_append, ih]
    show act c (nth t s k) _ = _
    have us := U_succ (c s t) k
    by_cases h : k % 2 = 0
    · rw [if_pos h, if_neg (by omega), nth, if_pos h, act_lc, ds, dt t s hst.symm, us, G.sym t s]
      funext i
      unfold lc e
      show _ = Up (c s t) (k + 1) * _ + _
      by_cases hi : i = s
      · have hit : i ≠ t := fun z => hst (hi.symm.trans z)
        simp only [if_pos hi, if_neg hit]
        show _ = U (c s t) k * _ + _
        grind
      · by_cases hit : i = t
        · simp only [if_neg hi, if_pos hit]
          grind
        · simp only [if_neg hi, if_neg hit]
          grind
    · rw [if_neg h, if_pos (by omega), nth, if_neg h, act_lc, ds, dt s t hst, us]
      funext i
      unfold lc e
      show _ = _ + Up (c s t) (k + 1) * _
      by_cases hi : i = s
      · have hit : i ≠ t := fun z => hst (hi.symm.trans z)
        simp only [if_pos hi, if_neg hit]
        grind
      · by_cases hit : i = t
        · simp only [if_neg hi, if_pos hit]
          show _ = _ + U (c s t) k * _
          grind
        · simp only [if_neg hi, if_neg hit]
          grind
end
section
variable {R : Type} [CommRing R] [LE R] [LT R] [Std.LawfulOrderLT R] [Std.IsLinearOrder R] [OrderedRing R]
variable {m : Fin 3 → Fin 3 → Nat} {c : Fin 3 → Fin 3 → R}
/-- no coordinate is negative, their sum is at least 1 -/
def Big (v : V3 R) : Prop := (∀ k, 0 ≤ v k) ∧ 1 ≤ v 0 + v 1 + v 2
theorem Big.lc {p q : R} {x y : V3 R} (hp : 0 ≤ p) (hq : 0 ≤ q) (hpq : 1 ≤ p + q) (hx : Big x) (hy : Big y) : Big (lc p x q y) := by
  obtain ⟨x1, x2⟩ := hx
  obtain ⟨y1, y2⟩ := hy
  refine ⟨fun k => ?_, ?_⟩
  · have a := OrderedRing.mul_nonneg hp (x1 k)
    have b := OrderedRing.mul_nonneg hq (y1 k)
    show 0 ≤ p * x k + q * y k
    grind
  · have a := OrderedRing.mul_nonneg hp (show 0 ≤ (x 0 + x 1 + x 2) - 1 by grind)
    have b := OrderedRing.mul_nonneg hq (show 0 ≤ (y 0 + y 1 + y 2) - 1 by grind)
    show 1 ≤ (p * x 0 + q * y 0) + (p * x 1 + q * y 1) + (p * x 2 + q * y 2)
    grind
/-- the numbers c, with their signs -/
structure Ord (m : Fin 3 → Fin 3 → Nat) (c : Fin 3 → Fin 3 → R) : Prop extends Geo m c where
  pos : ∀ i j k, i ≠ j → (m i j = 0 ∨ k < m i j) → 0 ≤ U (c i j) k
  one : ∀ i j k, i ≠ j → (m i j = 0 ∨ k < m i j) → 1 ≤ U (c i j) k + Up (c i j) k
theorem big_e (s : Fin 3) : Big (e s : V3 R) := by
  have h01 : (0 : R) ≤ 1 := by grind
  refine ⟨fun k => ?_, ?_⟩
  · unfold e
    by_cases h : k = s
    · rw [if_pos h]; exact h01
    · rw [if_neg h]; grind
  · have h3 : s = 0 ∨ s = 1 ∨ s = 2 := by
      rcases s with ⟨s, hs⟩
      have : s = 0 ∨ s = 1 ∨ s = 2 := by omega
      rcases this with rfl | rfl | rfl
      · exact .inl rfl
      · exact .inr (.inl rfl)
      · exact .inr (.inr rfl)
    unfold e
    rcases h3 with rfl | rfl | rfl <;> simp <;> grind
/-- the roots of two letters in turns, up to their order -/
theorem big_two (O : Ord m c) {s t : Fin 3} (hst : s ≠ t) {k : Nat} (hk : m s t = 0 ∨ k < m s t) {v : W} (hs : Big (actw c v (e s))) (ht : Big (actw c v (e t))) : Big (actw c v (actl c (alt t s k) (e s))) := by
  rw [actl_root O.toGeo hst]
  have p := O.pos s t k hst hk
  have o := O.one s t k hst hk
  have up : 0 ≤ Up (c s t) k := by
    cases k with
    | zero => show (0 : R) ≤ 0; grind
    | succ k => exact O.pos s t k hst (hk.imp id (by omega))
  by_cases h : k % 2 = 0
  · rw [if_pos h, actw_lc]
    exact Big.lc p up o hs ht
  · rw [if_neg h, actw_lc]
    exact Big.lc up p (by grind) hs ht
end
end Cox

/-! Behind each tile the root of a mirror is positive or negative, as the length grows or shrinks. -/
namespace Cox
open Lean.Grind
variable {m : Fin 3 → Fin 3 → Nat}
theorem alt_split (i j : Fin 3) (a : Nat) : ∀ b : Nat, ∃ r : W, alt i j (a + b) = alt i j a ++ r ∧ r.length = b
  | 0 => ⟨[], (List.append_nil _).symm, rfl⟩
  | b + 1 => by
    obtain ⟨r, h1, h2⟩ := alt_split i j a b
    refine ⟨r ++ [nth i j (a + b)], ?_, by rw [List.length_append, h2]; rfl⟩
    rw [show a + (b + 1) = (a + b) + 1 by omega, alt_snoc, h1, List.append_assoc]
theorem nth_cases (i j : Fin 3) (k : Nat) {x : Fin 3} (h : x = i ∨ x = j) : x = nth i j k ∨ x = nth i j (k + 1) := by
  unfold nth
  by_cases c : k % 2 = 0
  · rw [if_pos c, if_neg (by omega)]
    exact h
  · rw [if_neg c, if_pos (by omega)]
    exact h.symm
/-- no more letters in turns than the order tells -/
theorem few {w v : W} {s t : Fin 3} {k : Nat} (hst : s ≠ t) (ms : m s t = m t s) (hs : ln m (w ++ [s]) = ln m w + 1) (hw : Eqv m w (v ++ (alt t s k).reverse)) (hl : ln m w = ln m v + k) : m s t = 0 ∨ k < m s t := by
  by_cases h0 : m s t = 0
  · exact .inl h0
  · refine .inr (Nat.lt_of_not_le fun hk => ?_)
    obtain ⟨r, h1, h2⟩ := alt_split t s (m s t) (k - m s t)
    rw [show m s t + (k - m s t) = k by omega] at h1
    obtain ⟨n, hn⟩ : ∃ n, m s t = n + 1 := ⟨m s t - 1, by omega⟩
    have tu : Eqv m (alt t s (m t s)) (alt s t (m t s)) := by
      have := Step.turn (m := m) [] [] t s hst.symm (by omega)
      simp only [List.nil_append, List.append_nil] at this
      exact .step this
    have tr := tu.rev
    rw [← ms, hn, show (alt s t (n + 1)).reverse = (alt t s n).reverse ++ [s] by rw [alt, List.reverse_cons]] at tr
    have e1 : Eqv m (w ++ [s]) (v ++ r.reverse ++ (alt t s n).reverse) := by
      rw [h1, List.reverse_append, hn] at hw
      have a := hw.right [s]
      have b := tr.app (v ++ r.reverse) [s]
      have d := snoc_snoc (m := m) (v ++ r.reverse ++ (alt t s n).reverse) s
      refine a.trans ?_
      have b2 : Eqv m (v ++ (r.reverse ++ (alt t s (n + 1)).reverse) ++ [s]) (v ++ r.reverse ++ (alt t s n).reverse ++ [s] ++ [s]) := by simpa using b
      exact b2.trans d
    have a := ln_eqv e1
    have b := ln_append (m := m) (v ++ r.reverse) (alt t s n).reverse
    have d := ln_append (m := m) v r.reverse
    have f := ln_self (m := m) (alt t s n).reverse
    have g := ln_self (m := m) r.reverse
    rw [List.length_reverse, alt_length] at f
    rw [List.length_reverse, h2] at g
    omega
/-- the longest part in two letters, split off -/
theorem split_more {w : W} {s t : Fin 3} (hst : s ≠ t) : ∀ (n : Nat) (v : W) (k : Nat), ln m v ≤ n → Eqv m w (v ++ (alt t s k).reverse) → ln m w = ln m v + k → 1 ≤ k →
    ∃ v k, Eqv m w (v ++ (alt t s k).reverse) ∧ ln m w = ln m v + k ∧ 1 ≤ k ∧ ln m (v ++ [s]) = ln m v + 1 ∧ ln m (v ++ [t]) = ln m v + 1 := by
  intro n
  induction n with
  | zero =>
    intro v k hn hw hl hk
    have a := ln_snoc (m := m) v s
    have b := ln_snoc (m := m) v t
    exact ⟨v, k, hw, hl, hk, by omega, by omega⟩
  | succ n ih =>
    intro v k hn hw hl hk
    -- a letter that shortens
    have one : ∀ x : Fin 3, (x = t ∨ x = s) → ln m v = ln m (v ++ [x]) + 1 → ∃ v k, Eqv m w (v ++ (alt t s k).reverse) ∧ ln m w = ln m v + k ∧ 1 ≤ k ∧ ln m (v ++ [s]) = ln m v + 1 ∧ ln m (v ++ [t]) = ln m v + 1 := by
      intro x hx hlt
      obtain ⟨j, rfl⟩ : ∃ j, k = j + 1 := ⟨k - 1, by omega⟩
      rcases nth_cases t s j hx with e | e
      · -- it is the first one of the letters in turns
        exfalso
        rw [alt_snoc, List.reverse_append, ← e] at hw
        have hw2 : Eqv m w ((v ++ [x]) ++ (alt t s j).reverse) := by simpa using hw
        have a := ln_eqv hw2
        have b := ln_append (m := m) (v ++ [x]) (alt t s j).reverse
        have f := ln_self (m := m) (alt t s j).reverse
        rw [List.length_reverse, alt_length] at f
        omega
      · refine ih (v ++ [x]) (j + 2) (by omega) ?_ (by omega) (by omega)
        rw [show j + 2 = (j + 1) + 1 from rfl, alt_snoc, List.reverse_append, ← e]
        have a := (snoc_snoc (m := m) v x).symm.right (alt t s (j + 1)).reverse
        have b : Eqv m (v ++ (alt t s (j + 1)).reverse) (v ++ [x] ++ ([x].reverse ++ (alt t s (j + 1)).reverse)) := by simpa using a
        exact hw.trans b
    rcases ln_snoc (m := m) v s with a | a
    · rcases ln_snoc (m := m) v t with b | b
      · exact ⟨v, k, hw, hl, hk, a, b⟩
      · exact one t (.inl rfl) b
    · exact one s (.inr rfl) a
section
variable {R : Type} [CommRing R] [LE R] [LT R] [Std.LawfulOrderLT R] [Std.IsLinearOrder R] [OrderedRing R]
variable {c : Fin 3 → Fin 3 → R}
theorem ln_zero {w : W} (h : ln m w = 0) : Eqv m w [] := by
  obtain ⟨u, hu, h1⟩ := ln_ex (m := m) w
  have : u = [] := List.eq_nil_of_length_eq_zero (by omega)
  subst this
  exact hu
/-- a last letter of a shortest word -/
theorem last_ex {w : W} (h : ln m w ≠ 0) : ∃ t, ln m w = ln m (w ++ [t]) + 1 := by
  obtain ⟨u, hu, h1⟩ := ln_ex (m := m) w
  rcases List.eq_nil_or_concat u with rfl | ⟨x, t, rfl⟩
  · rw [List.length_nil] at h1
    omega
  · refine ⟨t, ?_⟩
    rw [List.concat_eq_append] at hu h1
    have a := ln_le ((hu.right [t]).trans (snoc_snoc x t))
    rw [List.length_append, List.length_singleton] at h1
    have b := ln_snoc (m := m) w t
    omega
/-- the theorem of the roots -/
theorem root_pos (O : Ord m c) : ∀ (n : Nat) (w : W) (s : Fin 3), ln m w ≤ n → ln m (w ++ [s]) = ln m w + 1 → Big (actw c w (e s)) := by
  intro n
  induction n with
  | zero =>
    intro w s hn hs
    rw [O.toGeo.eqv (ln_zero (by omega))]
    exact big_e s
  | succ n ih =>
    intro w s hn hs
    by_cases h0 : ln m w = 0
    · rw [O.toGeo.eqv (ln_zero h0)]
      exact big_e s
    · obtain ⟨t, ht⟩ := last_ex h0
      have hst : s ≠ t := fun z => by
        rw [z] at hs
        omega
      obtain ⟨v, k, hw, hl, hk, h1, h2⟩ := split_more hst (ln m (w ++ [t])) (w ++ [t]) 1 (Nat.le_refl _) (snoc_snoc w t).symm ht (Nat.le_refl _)
      have fw := few hst (O.msym s t) hs hw hl
      rw [O.toGeo.eqv hw, actw_append]
      have r := actl_reverse (c := c) (alt t s k).reverse (e s)
      rw [List.reverse_reverse] at r
      rw [← r]
      exact big_two O hst fw (ih v s (by omega) h1) (ih v t (by omega) h2)
theorem act_e (G : Geo m c) (s : Fin 3) : act c s (e s) = lc (-1) (e s) 0 (e s) := by
  have h2 := G.two s
  funext k
  unfold act bump lc
  have d : dot c s (e s) = c s s := by
    unfold dot e
    have h3 : s = 0 ∨ s = 1 ∨ s = 2 := by
      rcases s with ⟨s, hs⟩
      have : s = 0 ∨ s = 1 ∨ s = 2 := by omega
      rcases this with rfl | rfl | rfl
      · exact .inl rfl
      · exact .inr (.inl rfl)
      · exact .inr (.inr rfl)
    rcases h3 with rfl | rfl | rfl <;> simp <;> grind
  rw [d, h2]
  unfold e
  by_cases h : k = s
  · simp only [if_pos h]; grind
  · simp only [if_neg h]; grind
/-- a shrinking one's root is negative -/
theorem root_neg (O : Ord m c) (w : W) (s : Fin 3) (h : ln m w = ln m (w ++ [s]) + 1) : ∃ v : V3 R, Big v ∧ actw c w (e s) = lc (-1) v 0 v := by
  have h2 : ln m (w ++ [s] ++ [s]) = ln m (w ++ [s]) + 1 := by rw [ln_eqv (snoc_snoc w s), h]
  refine ⟨actw c (w ++ [s]) (e s), root_pos O _ (w ++ [s]) s (Nat.le_refl _) h2, ?_⟩
  rw [← actw_lc, ← act_e O.toGeo]
  have := O.toGeo.eqv (snoc_snoc w s) (e s)
  rw [← this, actw_append, actw_append, actw_append]
  rfl
end
end Cox

/-! Turns alone connect shortest words; they shorten any other. -/
namespace Cox
open Lean.Grind
variable {m : Fin 3 → Fin 3 → Nat}
/-- one turn -/
def Turn1 (m : Fin 3 → Fin 3 → Nat) (a b : W) : Prop := ∃ (u v : W) (i j : Fin 3), i ≠ j ∧ m i j ≠ 0 ∧ a = u ++ (alt i j (m i j) ++ v) ∧ b = u ++ (alt j i (m i j) ++ v)
/-- turns, one after the other -/
inductive Tn (m : Fin 3 → Fin 3 → Nat) : W → W → Prop
  | refl (u : W) : Tn m u u
  | more {u v w : W} : Turn1 m u v → Tn m v w → Tn m u w
theorem Tn.one {u v : W} (h : Turn1 m u v) : Tn m u v := .more h (.refl v)
theorem Tn.trans {u v w : W} (h : Tn m u v) (k : Tn m v w) : Tn m u w := by
  induction h with
  | refl u => exact k
  | more a _ ih => exact .more a (ih k)
theorem Turn1.app {u v : W} (h : Turn1 m u v) (x y : W) : Turn1 m (x ++ u ++ y) (x ++ v ++ y) := by
  obtain ⟨a, b, i, j, h1, h2, rfl, rfl⟩ := h
  exact ⟨x ++ a, b ++ y, i, j, h1, h2, by simp, by simp⟩
theorem Tn.app {u v : W} (h : Tn m u v) (x y : W) : Tn m (x ++ u ++ y) (x ++ v ++ y) := by
  induction h with
  | refl u => exact .refl _
  | more a _ ih => exact .more (a.app x y) ih
theorem Turn1.eqv {u v : W} (h : Turn1 m u v) : Eqv m u v := by
  obtain ⟨a, b, i, j, h1, h2, rfl, rfl⟩ := h
  exact .step (.turn a b i j h1 h2)
theorem Tn.eqv {u v : W} (h : Tn m u v) : Eqv m u v := by
  induction h with
  | refl u => exact .refl _
  | more a _ ih => exact a.eqv.trans ih
theorem Turn1.len {u v : W} (h : Turn1 m u v) : u.length = v.length := by
  obtain ⟨a, b, i, j, h1, h2, rfl, rfl⟩ := h
  simp only [List.length_append, alt_length]
theorem Tn.len {u v : W} (h : Tn m u v) : u.length = v.length := by
  induction h with
  | refl u => rfl
  | more a _ ih => rw [a.len, ih]
theorem Tn.snoc {u v : W} (h : Tn m u v) (s : Fin 3) : Tn m (u ++ [s]) (v ++ [s]) := h.app [] [s]
theorem turn_rev (ms : ∀ i j, m i j = m j i) {s t : Fin 3} (hst : s ≠ t) (h0 : m s t ≠ 0) (v : W) : Turn1 m (v ++ (alt s t (m s t)).reverse) (v ++ (alt t s (m s t)).reverse) := by
  rw [alt_reverse, alt_reverse]
  by_cases h : m s t % 2 = 0
  · rw [if_pos h, if_pos h]
    exact ⟨v, [], t, s, hst.symm, by rw [ms]; exact h0, by rw [List.append_nil, ms t s], by rw [List.append_nil, ms t s]⟩
  · rw [if_neg h, if_neg h]
    exact ⟨v, [], s, t, hst, h0, by rw [List.append_nil], by rw [List.append_nil]⟩
section
variable {R : Type} [CommRing R] [LE R] [LT R] [Std.LawfulOrderLT R] [Std.IsLinearOrder R] [OrderedRing R]
variable {c : Fin 3 → Fin 3 → R}
theorem big_not {x v : V3 R} (h : Big x) (k : Big v) (e : x = lc (-1) v 0 v) : False := by
  obtain ⟨_, a⟩ := h
  obtain ⟨_, b⟩ := k
  rw [e] at a
  have d : 1 ≤ (-1 * v 0 + 0 * v 0) + (-1 * v 1 + 0 * v 1) + (-1 * v 2 + 0 * v 2) := a
  have z : (0 : R) < 1 := by grind
  grind
/-- the length grows exactly if the root is positive -/
theorem grows (O : Ord m c) {w : W} {s : Fin 3} (h : Big (actw c w (e s))) : ln m (w ++ [s]) = ln m w + 1 := by
  rcases ln_snoc (m := m) w s with a | a
  · exact a
  · obtain ⟨v, hv, hw⟩ := root_neg O w s a
    exact (big_not h hv hw).elim
theorem longer (m : Fin 3 → Fin 3 → Nat) (ms : ∀ i j, m i j = m j i) {s t : Fin 3} (hst : s ≠ t) (h0 : m s t ≠ 0) : Eqv m (alt t s (m s t + 1)) (alt s t (m s t - 1)) := by
  obtain ⟨n, hn⟩ : ∃ n, m s t = n + 1 := ⟨m s t - 1, by omega⟩
  have tu : Eqv m (alt t s (m t s)) (alt s t (m t s)) := by
    have := Step.turn (m := m) [] [] t s hst.symm (by rw [ms]; exact h0)
    simp only [List.nil_append, List.append_nil] at this
    exact .step this
  rw [ms t s, hn] at tu
  have a := tu.right [nth t s (n + 1)]
  rw [alt_snoc s t n, nth_succ] at a
  rw [hn, alt_snoc t s (n + 1), nth_succ]
  exact a.trans (snoc_snoc _ _)
/-- two last letters: all their turns -/
theorem both (O : Ord m c) {w : W} {s t : Fin 3} (hst : s ≠ t) (hs : ln m w = ln m (w ++ [s]) + 1) (ht : ln m w = ln m (w ++ [t]) + 1) :
    m s t ≠ 0 ∧ ∃ v, Eqv m w (v ++ (alt t s (m s t)).reverse) ∧ ln m w = ln m v + m s t := by
  obtain ⟨v, k, hw, hl, hk, h1, h2⟩ := split_more hst (ln m (w ++ [t])) (w ++ [t]) 1 (Nat.le_refl _) (snoc_snoc w t).symm ht (Nat.le_refl _)
  have no : ¬ (m s t = 0 ∨ k < m s t) := fun z => by
    have b := big_two O hst z (root_pos O _ v s (Nat.le_refl _) h1) (root_pos O _ v t (Nat.le_refl _) h2)
    have r := actl_reverse (c := c) (alt t s k).reverse (e s)
    rw [List.reverse_reverse] at r
    rw [r, ← actw_append, ← O.toGeo.eqv hw] at b
    have := grows O b
    omega
  have h0 : m s t ≠ 0 := fun z => no (.inl z)
  have hm : m s t ≤ k := Nat.le_of_not_lt fun z => no (.inr z)
  have hk2 : k = m s t := by
    refine Nat.le_antisymm (Nat.le_of_not_lt fun z => ?_) hm
    obtain ⟨r, e1, e2⟩ := alt_split t s (m s t + 1) (k - (m s t + 1))
    rw [show m s t + 1 + (k - (m s t + 1)) = k by omega] at e1
    rw [e1, List.reverse_append] at hw
    have a := ((longer m O.msym hst h0).rev.left r.reverse).left v
    have b := ln_eqv (hw.trans a)
    have d := ln_append (m := m) v (r.reverse ++ (alt s t (m s t - 1)).reverse)
    have f := ln_self (m := m) (r.reverse ++ (alt s t (m s t - 1)).reverse)
    rw [List.length_append, List.length_reverse, List.length_reverse, alt_length, e2] at f
    omega
  exact ⟨h0, v, by rw [← hk2]; exact hw, by omega⟩
/-- turns alone connect the shortest words of a tile -/
theorem turns (O : Ord m c) : ∀ (n : Nat) (u w : W), u.length = n → Red m u → Red m w → Eqv m u w → Tn m u w := by
  intro n
  induction n with
  | zero =>
    intro u w hu ru rw_ huw
    have hu0 : u = [] := List.eq_nil_of_length_eq_zero hu
    have hw0 : w = [] := by
      refine List.eq_nil_of_length_eq_zero ?_
      rw [← rw_, ← ln_eqv huw, ru, hu]
    rw [hu0, hw0]
    exact .refl _
  | succ n ih =>
    intro u w hu ru rw_ huw
    have hwl : w.length = n + 1 := by rw [← rw_, ← ln_eqv huw, ru, hu]
    -- words of this tile with the same last letter
    have same : ∀ (x y : W) (s : Fin 3), x.length = n → Red m (x ++ [s]) → Red m (y ++ [s]) → Eqv m (x ++ [s]) (y ++ [s]) → Tn m (x ++ [s]) (y ++ [s]) := fun x y s hx rx ry h =>
      (ih x y hx rx.part.1 ry.part.1 h.cancel_right).snoc s
    rcases List.eq_nil_or_concat u with rfl | ⟨x, s, rfl⟩
    · simp at hu
    rcases List.eq_nil_or_concat w with rfl | ⟨y, t, rfl⟩
    · simp at hwl
    simp only [List.concat_eq_append] at *
    have hx : x.length = n := by simpa using hu
    have hy : y.length = n := by simpa using hwl
    by_cases hst : s = t
    · subst hst
      exact same x y s hx ru rw_ huw
    · have lu : ln m (x ++ [s]) = n + 1 := by rw [ru, hu]
      have d1 : ln m (x ++ [s]) = ln m (x ++ [s] ++ [s]) + 1 := by
        rw [ln_eqv (snoc_snoc x s), lu, ru.part.1, hx]
      have d2 : ln m (x ++ [s]) = ln m (x ++ [s] ++ [t]) + 1 := by
        rw [ln_eqv ((huw.right [t]).trans (snoc_snoc y t)), lu, rw_.part.1, hy]
      obtain ⟨h0, v0, hv, hl⟩ := both O hst d1 d2
      obtain ⟨v, hv1, hv2⟩ := red_ex (m := m) v0
      have hB : Eqv m (x ++ [s]) (v ++ (alt t s (m s t)).reverse) := hv.trans (hv1.right _)
      have tA := turn_rev O.msym hst h0 v
      have hA : Eqv m (x ++ [s]) (v ++ (alt s t (m s t)).reverse) := hB.trans tA.eqv.symm
      have lv : v.length + m s t = n + 1 := by rw [← hv2, ← ln_eqv hv1]; omega
      obtain ⟨k, hk⟩ : ∃ k, m s t = k + 1 := ⟨m s t - 1, by omega⟩
      have rA : Red m (v ++ (alt s t (m s t)).reverse) := by
        unfold Red
        rw [← ln_eqv hA, lu, List.length_append, List.length_reverse, alt_length, lv]
      have rB : Red m (v ++ (alt t s (m s t)).reverse) := by
        unfold Red
        rw [← ln_eqv hB, lu, List.length_append, List.length_reverse, alt_length, lv]
      have eA : v ++ (alt s t (m s t)).reverse = (v ++ (alt t s k).reverse) ++ [s] := by
        rw [hk, alt, List.reverse_cons, List.append_assoc]
      have eB : v ++ (alt t s (m s t)).reverse = (v ++ (alt s t k).reverse) ++ [t] := by
        rw [hk, alt, List.reverse_cons, List.append_assoc]
      have t1 : Tn m (x ++ [s]) (v ++ (alt s t (m s t)).reverse) := by
        rw [eA] at hA rA ⊢
        exact same x _ s hx ru rA hA
      have t3 : Tn m (v ++ (alt t s (m s t)).reverse) (y ++ [t]) := by
        have hBw := hB.symm.trans huw
        rw [eB] at rB hBw ⊢
        refine same _ y t ?_ rB rw_ hBw
        rw [List.length_append, List.length_reverse, alt_length]
        omega
      exact t1.trans ((Tn.one tA).trans t3)
/-- turns lead from a word that is not shortest to one with two equal letters next to each other -/
theorem shorten (O : Ord m c) (w : W) (h : ¬ Red m w) : ∃ (u v : W) (s : Fin 3), Tn m w (u ++ ([s, s] ++ v)) := by
  have key : ∀ (y x : W), Red m x → ¬ Red m (x ++ y) → ∃ (u v : W) (s : Fin 3), Tn m (x ++ y) (u ++ ([s, s] ++ v)) := by
    intro y
    induction y with
    | nil =>
      intro x hx h
      rw [List.append_nil] at h
      exact absurd hx h
    | cons s y ih =>
      intro x hx h
      have e : x ++ s :: y = (x ++ [s]) ++ y := by simp
      by_cases c1 : Red m (x ++ [s])
      · rw [e] at h ⊢
        exact ih (x ++ [s]) c1 h
      · have lt : ln m x = ln m (x ++ [s]) + 1 := by
          rcases ln_snoc (m := m) x s with a | a
          · exact absurd ((red_snoc hx).mpr a) c1
          · exact a
        obtain ⟨z, hz1, hz2⟩ := red_ex (m := m) (x ++ [s])
        have hxz : Eqv m x (z ++ [s]) := (snoc_snoc x s).symm.trans (hz1.right [s])
        have rz : Red m (z ++ [s]) := by
          unfold Red
          rw [← ln_eqv hxz, lt, ln_eqv hz1, hz2, List.length_append]
          rfl
        have t := (turns O _ x (z ++ [s]) rfl hx rz hxz).app [] (s :: y)
        exact ⟨z, y, s, by simpa using t⟩
  exact key w [] (by unfold Red; exact Nat.le_zero.mp (ln_self [])) h
end
end Cox

/-! Real numbers: rational sequences whose members settle as fast as halves. -/
namespace Cox
open Lean.Grind
def h : Nat → Rat
  | 0 => 1
  | i + 1 => h i / 2
theorem h_succ (i : Nat) : h i = h (i + 1) + h (i + 1) := by
  show h i = h i / 2 + h i / 2
  grind
theorem h_pos : ∀ i, 0 < h i
  | 0 => by show (0 : Rat) < 1; decide
  | i + 1 => by
    have a := h_pos i
    have b := h_succ i
    grind
theorem mul_bd {a b B D : Rat} (h1 : -B ≤ a) (h2 : a ≤ B) (h3 : -D ≤ b) (h4 : b ≤ D) : a * b ≤ B * D := by
  have x := Rat.mul_nonneg (show 0 ≤ B - a by grind) (show 0 ≤ D + b by grind)
  have y := Rat.mul_nonneg (show 0 ≤ B + a by grind) (show 0 ≤ D - b by grind)
  grind
structure Sq where
  f : Nat → Rat
  ok : ∃ C, ∀ i j, i ≤ j → f i - f j ≤ C * h i ∧ f j - f i ≤ C * h i
theorem nn_of {C x : Rat} (hx : 0 < x) (h1 : 0 ≤ C * x) : 0 ≤ C := by
  by_cases c : 0 ≤ C
  · exact c
  · have := Rat.mul_pos (show 0 < -C by grind) hx
    grind
theorem Sq.rate (a : Sq) : ∃ C, 0 ≤ C ∧ ∀ i j, i ≤ j → a.f i - a.f j ≤ C * h i ∧ a.f j - a.f i ≤ C * h i := by
  obtain ⟨C, hC⟩ := a.ok
  refine ⟨C, nn_of (h_pos 0) ?_, hC⟩
  have := (hC 0 0 (Nat.le_refl 0)).1
  grind
theorem Sq.bound (a : Sq) : ∃ B, 0 ≤ B ∧ ∀ i, -B ≤ a.f i ∧ a.f i ≤ B := by
  obtain ⟨C, h0, hC⟩ := a.rate
  refine ⟨(if 0 ≤ a.f 0 then a.f 0 else -a.f 0) + C, by split <;> grind, fun i => ?_⟩
  have := hC 0 i (Nat.zero_le i)
  have e : h 0 = 1 := rfl
  rw [e] at this
  split <;> grind
def same (a b : Sq) : Prop := ∃ C, ∀ i, a.f i - b.f i ≤ C * h i ∧ b.f i - a.f i ≤ C * h i
instance sqSet : Setoid Sq where
  r := same
  iseqv := {
    refl := fun a => ⟨0, fun i => by grind⟩
    symm := fun ⟨C, hC⟩ => ⟨C, fun i => ⟨(hC i).2, (hC i).1⟩⟩
    trans := fun ⟨C, hC⟩ ⟨D, hD⟩ => ⟨C + D, fun i => by
      have a := hC i
      have b := hD i
      grind⟩ }
def cst (q : Rat) : Sq := ⟨fun _ => q, 0, fun i j _ => by grind⟩
def Sq.add (a b : Sq) : Sq := ⟨fun i => a.f i + b.f i, by
  obtain ⟨C, hC⟩ := a.ok
  obtain ⟨D, hD⟩ := b.ok
  refine ⟨C + D, fun i j hij => ?_⟩
  have x := hC i j hij
  have y := hD i j hij
  grind⟩
def Sq.neg (a : Sq) : Sq := ⟨fun i => -a.f i, by
  obtain ⟨C, hC⟩ := a.ok
  refine ⟨C, fun i j hij => ?_⟩
  have x := hC i j hij
  grind⟩
theorem mul_step {x x' y y' B D C E t : Rat} (a1 : -B ≤ x ∧ x ≤ B) (a2 : -D ≤ y' ∧ y' ≤ D) (a3 : x - x' ≤ C * t ∧ x' - x ≤ C * t) (a4 : y - y' ≤ E * t ∧ y' - y ≤ E * t) : x * y - x' * y' ≤ (B * E + D * C) * t := by
  have p := mul_bd a1.1 a1.2 (show -(E * t) ≤ y - y' by grind) a4.1
  have q := mul_bd a2.1 a2.2 (show -(C * t) ≤ x - x' by grind) a3.1
  grind
def Sq.mul (a b : Sq) : Sq := ⟨fun i => a.f i * b.f i, by
  obtain ⟨C, hC⟩ := a.ok
  obtain ⟨D, hD⟩ := b.ok
  obtain ⟨B, _, hB⟩ := a.bound
  obtain ⟨E, _, hE⟩ := b.bound
  refine ⟨B * D + E * C, fun i j hij => ⟨?_, ?_⟩⟩
  · exact mul_step (hB i) (hE j) (hC i j hij) (hD i j hij)
  · have := mul_step (hB j) (hE i) (And.intro (hC i j hij).2 (hC i j hij).1) (And.intro (hD i j hij).2 (hD i j hij).1)
    exact this⟩
def Re := Quotient sqSet
def Re.of (a : Sq) : Re := Quotient.mk sqSet a
theorem Re.ex (x : Re) : ∃ a, x = Re.of a := by
  obtain ⟨a, h⟩ := Quotient.exists_rep x
  exact ⟨a, h.symm⟩
theorem Re.eq {a b : Sq} (h : ∀ i, a.f i = b.f i) : Re.of a = Re.of b := Quotient.sound ⟨0, fun i => by rw [h]; grind⟩
def Re.add : Re → Re → Re := Quotient.lift₂ (fun a b => Re.of (a.add b)) (fun a b a' b' ⟨C, hC⟩ ⟨D, hD⟩ => Quotient.sound ⟨C + D, fun i => by
  have x := hC i
  have y := hD i
  show (a.f i + b.f i) - (a'.f i + b'.f i) ≤ _ ∧ (a'.f i + b'.f i) - (a.f i + b.f i) ≤ _
  grind⟩)
def Re.neg : Re → Re := Quotient.lift (fun a => Re.of a.neg) (fun a a' ⟨C, hC⟩ => Quotient.sound ⟨C, fun i => by
  have x := hC i
  show (-a.f i) - (-a'.f i) ≤ _ ∧ (-a'.f i) - (-a.f i) ≤ _
  grind⟩)
def Re.mul : Re → Re → Re := Quotient.lift₂ (fun a b => Re.of (a.mul b)) (fun a b a' b' ⟨C, hC⟩ ⟨D, hD⟩ => Quotient.sound (by
  obtain ⟨B, _, hB⟩ := a.bound
  obtain ⟨E, _, hE⟩ := b'.bound
  obtain ⟨B', _, hB'⟩ := a'.bound
  obtain ⟨E', _, hE'⟩ := b.bound
  refine ⟨(B * D + E * C) + (B' * D + E' * C), fun i => ?_⟩
  have p := mul_step (hB i) (hE i) (hC i) (hD i)
  have q := mul_step (hB' i) (hE' i) (And.intro (hC i).2 (hC i).1) (And.intro (hD i).2 (hD i).1)
  have z1 : 0 ≤ (B * D + E * C) * h i := by
    have u := hC i
    have v := hD i
    have c0 : 0 ≤ C := nn_of (h_pos i) (by grind)
    have d0 : 0 ≤ D := nn_of (h_pos i) (by grind)
    exact Rat.mul_nonneg (by have := Rat.mul_nonneg ‹0 ≤ B› d0; have := Rat.mul_nonneg ‹0 ≤ E› c0; grind) (by have := h_pos i; grind)
  have z2 : 0 ≤ (B' * D + E' * C) * h i := by
    have u := hC i
    have v := hD i
    have c0 : 0 ≤ C := nn_of (h_pos i) (by grind)
    have d0 : 0 ≤ D := nn_of (h_pos i) (by grind)
    exact Rat.mul_nonneg (by have := Rat.mul_nonneg ‹0 ≤ B'› d0; have := Rat.mul_nonneg ‹0 ≤ E'› c0; grind) (by have := h_pos i; grind)
  show a.f i * b.f i - a'.f i * b'.f i ≤ _ ∧ a'.f i * b'.f i - a.f i * b.f i ≤ _
  grind))
instance : Add Re := ⟨Re.add⟩
instance : Mul Re := ⟨Re.mul⟩
instance : Neg Re := ⟨Re.neg⟩
instance : Sub Re := ⟨fun a b => a + -b⟩
instance : NatCast Re := ⟨fun n => Re.of (cst n)⟩
instance : IntCast Re := ⟨fun n => Re.of (cst n)⟩
instance (n : Nat) : OfNat Re n := ⟨Re.of (cst n)⟩
instance : SMul Nat Re := ⟨fun n a => (n : Re) * a⟩
instance : SMul Int Re := ⟨fun n a => (n : Re) * a⟩
def Re.pow (a : Re) : Nat → Re
  | 0 => 1
  | n + 1 => Re.pow a n * a
instance : HPow Re Nat Re := ⟨Re.pow⟩
instance : CommRing Re where
  add_zero a := by
    obtain ⟨x, rfl⟩ := a.ex
    exact Re.eq fun i => by show x.f i + ((0 : Nat) : Rat) = x.f i; grind
  add_comm a b := by
    obtain ⟨x, rfl⟩ := a.ex
    obtain ⟨y, rfl⟩ := b.ex
    exact Re.eq fun i => by show x.f i + y.f i = y.f i + x.f i; grind
  add_assoc a b c := by
    obtain ⟨x, rfl⟩ := a.ex
    obtain ⟨y, rfl⟩ := b.ex
    obtain ⟨z, rfl⟩ := c.ex
    exact Re.eq fun i => by show x.f i + y.f i + z.f i = x.f i + (y.f i + z.f i); grind
  mul_assoc a b c := by
    obtain ⟨x, rfl⟩ := a.ex
    obtain ⟨y, rfl⟩ := b.ex
    obtain ⟨z, rfl⟩ := c.ex
    exact Re.eq fun i => by show x.f i * y.f i * z.f i = x.f i * (y.f i * z.f i); grind
  mul_one a := by
    obtain ⟨x, rfl⟩ := a.ex
    exact Re.eq fun i => by show x.f i * ((1 : Nat) : Rat) = x.f i; grind
  one_mul a := by
    obtain ⟨x, rfl⟩ := a.ex
    exact Re.eq fun i => by show ((1 : Nat) : Rat) * x.f i = x.f i; grind
  left_distrib a b c := by
    obtain ⟨x, rfl⟩ := a.ex
    obtain ⟨y, rfl⟩ := b.ex
    obtain ⟨z, rfl⟩ := c.ex
    exact Re.eq fun i => by show x.f i * (y.f i + z.f i) = x.f i * y.f i + x.f i * z.f i; grind
  right_distrib a b c := by
    obtain ⟨x, rfl⟩ := a.ex
    obtain ⟨y, rfl⟩ := b.ex
    obtain ⟨z, rfl⟩ := c.ex
    exact Re.eq fun i => by show (x.f i + y.f i) * z.f i = x.f i * z.f i + y.f i * z.f i; grind
  zero_mul a := by
    obtain ⟨x, rfl⟩ := a.ex
    exact Re.eq fun i => by show ((0 : Nat) : Rat) * x.f i = ((0 : Nat) : Rat); grind
  mul_zero a := by
    obtain ⟨x, rfl⟩ := a.ex
    exact Re.eq fun i => by show x.f i * ((0 : Nat) : Rat) = ((0 : Nat) : Rat); grind
  mul_comm a b := by
    obtain ⟨x, rfl⟩ := a.ex
    obtain ⟨y, rfl⟩ := b.ex
    exact Re.eq fun i => by show x.f i * y.f i = y.f i * x.f i; grind
  pow_zero _ := rfl
  pow_succ _ _ := rfl
  ofNat_succ n := Re.eq fun i => by show ((n + 1 : Nat) : Rat) = ((n : Nat) : Rat) + ((1 : Nat) : Rat); grind
  ofNat_eq_natCast _ := rfl
  nsmul_eq_natCast_mul _ _ := rfl
  neg_add_cancel a := by
    obtain ⟨x, rfl⟩ := a.ex
    exact Re.eq fun i => by show -x.f i + x.f i = ((0 : Nat) : Rat); grind
  sub_eq_add_neg _ _ := rfl
  neg_zsmul n a := by
    obtain ⟨x, rfl⟩ := a.ex
    exact Re.eq fun i => by show ((-n : Int) : Rat) * x.f i = -(((n : Int) : Rat) * x.f i); grind
  zsmul_natCast_eq_nsmul n a := by
    obtain ⟨x, rfl⟩ := a.ex
    exact Re.eq fun i => by exact congrArg (fun z : Rat => z * x.f i) (Rat.intCast_natCast n)
  intCast_ofNat n := Re.eq fun i => by exact Rat.intCast_natCast n
  intCast_neg n := Re.eq fun i => by show ((-n : Int) : Rat) = -((n : Int) : Rat); grind
/-! the order -/
def Sq.le (a b : Sq) : Prop := ∃ C, ∀ i, a.f i - b.f i ≤ C * h i
theorem same_symm {a b : Sq} (e : same a b) : same b a := by
  obtain ⟨C, hC⟩ := e
  exact ⟨C, fun i => ⟨(hC i).2, (hC i).1⟩⟩
theorem Sq.le_congr {a b a' b' : Sq} (e1 : same a a') (e2 : same b b') (l : a.le b) : a'.le b' := by
  obtain ⟨C, hC⟩ := e1
  obtain ⟨D, hD⟩ := e2
  obtain ⟨E, hE⟩ := l
  refine ⟨C + D + E, fun i => ?_⟩
  have x := hC i
  have y := hD i
  have z := hE i
  grind
def Re.le : Re → Re → Prop := Quotient.lift₂ Sq.le (fun a b a' b' e1 e2 => propext ⟨Sq.le_congr e1 e2, Sq.le_congr (same_symm e1) (same_symm e2)⟩)
instance : LE Re := ⟨Re.le⟩
instance : LT Re := ⟨fun a b => a ≤ b ∧ ¬ b ≤ a⟩
theorem Re.le_iff {a b : Sq} : Re.of a ≤ Re.of b ↔ a.le b := Iff.rfl
theorem Sq.total (a b : Sq) : a.le b ∨ b.le a := by
  obtain ⟨C, c0, hC⟩ := (a.add b.neg).rate
  by_cases c : a.le b
  · exact .inl c
  · refine .inr ⟨C, fun j => ?_⟩
    have n : ∃ i, ¬ a.f i - b.f i ≤ C * h i := Classical.byContradiction fun z => c ⟨C, fun i => Classical.byContradiction fun y => z ⟨i, y⟩⟩
    obtain ⟨i, hi⟩ := n
    have pj := h_pos j
    have cj := Rat.mul_nonneg c0 (show 0 ≤ h j by grind)
    rcases Nat.le_total i j with ij | ij
    · have x := hC i j ij
      have x1 : (a.f i + -b.f i) - (a.f j + -b.f j) ≤ C * h i := x.1
      grind
    · have x := hC j i ij
      have x2 : (a.f i + -b.f i) - (a.f j + -b.f j) ≤ C * h j := x.2
      have pi := h_pos i
      have ci := Rat.mul_nonneg c0 (show 0 ≤ h i by grind)
      grind
instance : Std.IsLinearOrder Re where
  le_refl a := by
    obtain ⟨x, rfl⟩ := a.ex
    exact ⟨0, fun i => by grind⟩
  le_trans a b c := by
    obtain ⟨x, rfl⟩ := a.ex
    obtain ⟨y, rfl⟩ := b.ex
    obtain ⟨z, rfl⟩ := c.ex
    rintro ⟨C, hC⟩ ⟨D, hD⟩
    exact ⟨C + D, fun i => by have p := hC i; have q := hD i; grind⟩
  le_antisymm a b := by
    obtain ⟨x, rfl⟩ := a.ex
    obtain ⟨y, rfl⟩ := b.ex
    rintro ⟨C, hC⟩ ⟨D, hD⟩
    have c0 : 0 ≤ C + D := nn_of (h_pos 0) (by have p := hC 0; have q := hD 0; grind)
    refine Quotient.sound ⟨(if 0 ≤ C then C else 0) + (if 0 ≤ D then D else 0), fun i => ?_⟩
    have p := hC i
    have q := hD i
    have pi := h_pos i
    have k1 : C * h i ≤ (if 0 ≤ C then C else 0) * h i := by
      split
      · exact Rat.le_refl
      · have := Rat.mul_nonneg (show 0 ≤ -C by grind) (show 0 ≤ h i by grind)
        grind
    have k2 : D * h i ≤ (if 0 ≤ D then D else 0) * h i := by
      split
      · exact Rat.le_refl
      · have := Rat.mul_nonneg (show 0 ≤ -D by grind) (show 0 ≤ h i by grind)
        grind
    have k3 : 0 ≤ (if 0 ≤ C then C else 0) * h i := Rat.mul_nonneg (by split <;> grind) (by grind)
    have k4 : 0 ≤ (if 0 ≤ D then D else 0) * h i := Rat.mul_nonneg (by split <;> grind) (by grind)
    grind
  le_total a b := by
    obtain ⟨x, rfl⟩ := a.ex
    obtain ⟨y, rfl⟩ := b.ex
    exact x.total y
instance : Std.LawfulOrderLT Re where
  lt_iff _ _ := Iff.rfl
/-- halves get as small as one likes -/
theorem h_le : ∀ i : Nat, ((i : Rat) + 1) * h i ≤ 1
  | 0 => by show (((0 : Nat) : Rat) + 1) * 1 ≤ 1; grind
  | i + 1 => by
    have a := h_le i
    have b := h_succ i
    have p := h_pos (i + 1)
    have n : (0 : Rat) ≤ (i : Rat) := by grind
    have m := Rat.mul_nonneg n (show 0 ≤ h (i + 1) by grind)
    rw [b] at a
    have e : (((i + 1 : Nat) : Rat) + 1) * h (i + 1) = (i : Rat) * h (i + 1) + (h (i + 1) + h (i + 1)) := by grind
    rw [e]
    grind
theorem nat_above (q : Rat) : ∃ n : Nat, q ≤ (n : Rat) := by
  refine ⟨q.ceil.toNat, ?_⟩
  have a := Rat.le_ceil (x := q)
  have b : q.ceil ≤ (q.ceil.toNat : Int) := Int.self_le_toNat _
  have c : ((q.ceil : Int) : Rat) ≤ (((q.ceil.toNat : Nat) : Int) : Rat) := Rat.intCast_le_intCast.mpr b
  rw [Rat.intCast_natCast] at c
  exact Rat.le_trans a c
theorem h_small (q : Rat) (hq : 0 < q) (C : Rat) : ∃ i, C * h i < q := by
  obtain ⟨n, hn⟩ := nat_above (C / q)
  refine ⟨n, ?_⟩
  have e : C = (C / q) * q := by
    rw [Rat.div_mul_cancel]
    grind
  have p := h_pos n
  have l := h_le n
  have k := Rat.mul_nonneg (show 0 ≤ (n : Rat) - C / q by grind) (show 0 ≤ q by grind)
  have k1 : C ≤ (n : Rat) * q := by grind
  have k2 := Rat.mul_nonneg (show 0 ≤ (n : Rat) * q - C by grind) (show 0 ≤ h n by grind)
  have k3 := Rat.mul_nonneg (show 0 ≤ 1 - ((n : Rat) + 1) * h n by grind) (show 0 ≤ q by grind)
  have k4 := Rat.mul_pos hq p
  grind
/-- positive: from some member on at least some number -/
theorem Sq.pos_of {a : Sq} (hn : ¬ a.le (cst 0)) : ∃ (q : Rat) (i : Nat), 0 < q ∧ ∀ j, i ≤ j → q ≤ a.f j := by
  obtain ⟨C, c0, hC⟩ := a.rate
  have n : ∃ i, ¬ a.f i - 0 ≤ C * h i := Classical.byContradiction fun z => hn ⟨C, fun i => Classical.byContradiction fun y => z ⟨i, y⟩⟩
  obtain ⟨i, hi⟩ := n
  exact ⟨a.f i - C * h i, i, by grind, fun j hj => by have := (hC i j hj).1; grind⟩
theorem Sq.not_le_zero {a : Sq} {q : Rat} {i : Nat} (hq : 0 < q) (h1 : ∀ j, i ≤ j → q ≤ a.f j) : ¬ a.le (cst 0) := by
  rintro ⟨C, hC⟩
  obtain ⟨k, hk⟩ := h_small q hq C
  have c0 : 0 ≤ C := by
    have a1 := hC i
    have a2 := h1 i (Nat.le_refl i)
    have a3 : a.f i - 0 ≤ C * h i := a1
    exact nn_of (h_pos i) (by grind)
  have anti : ∀ d : Nat, h (k + d) ≤ h k := fun d => by
    induction d with
    | zero => exact Rat.le_refl
    | succ d ih =>
      have b := h_succ (k + d)
      have p := h_pos (k + d + 1)
      show h (k + d + 1) ≤ h k
      grind
  have a1 : a.f (k + i) - 0 ≤ C * h (k + i) := hC (k + i)
  have a2 := h1 (k + i) (Nat.le_add_left i k)
  have a3 := Rat.mul_nonneg c0 (show 0 ≤ h k - h (k + i) by have := anti i; grind)
  grind
theorem Re.sub_pos {a b : Re} (l : a < b) : ∃ x : Sq, b + -a = Re.of x ∧ ¬ x.le (cst 0) := by
  obtain ⟨x, rfl⟩ := a.ex
  obtain ⟨y, rfl⟩ := b.ex
  refine ⟨y.add x.neg, rfl, fun z => l.2 ?_⟩
  obtain ⟨C, hC⟩ := z
  refine ⟨C, fun i => ?_⟩
  have : (y.f i + -x.f i) - 0 ≤ C * h i := hC i
  grind
theorem Re.lt_of {a b : Re} {x : Sq} (e : b + -a = Re.of x) (hx : ¬ x.le (cst 0)) : a < b := by
  have n : ¬ b ≤ a := fun z => hx (by
    have : b + -a ≤ Re.of (cst 0) := by
      obtain ⟨u, rfl⟩ := a.ex
      obtain ⟨v, rfl⟩ := b.ex
      obtain ⟨C, hC⟩ := z
      refine ⟨C, fun i => ?_⟩
      have := hC i
      show (v.f i + -u.f i) - 0 ≤ C * h i
      grind
    rw [e] at this
    exact this)
  exact ⟨(Std.IsLinearPreorder.le_total a b).resolve_right n, n⟩
theorem Re.mul_pos {x y : Sq} (hx : ¬ x.le (cst 0)) (hy : ¬ y.le (cst 0)) : ¬ (x.mul y).le (cst 0) := by
  obtain ⟨p, i, hp, h1⟩ := Sq.pos_of hx
  obtain ⟨q, j, hq, h2⟩ := Sq.pos_of hy
  refine Sq.not_le_zero (q := p * q) (i := i + j) (Rat.mul_pos hp hq) fun k hk => ?_
  have a := h1 k (by omega)
  have b := h2 k (by omega)
  have c := Rat.mul_nonneg (show 0 ≤ x.f k - p by grind) (show 0 ≤ q by grind)
  have d := Rat.mul_nonneg (show 0 ≤ x.f k by grind) (show 0 ≤ y.f k - q by grind)
  show p * q ≤ x.f k * y.f k
  grind
instance : OrderedRing Re where
  add_le_left_iff {a b} c := by
    obtain ⟨x, rfl⟩ := a.ex
    obtain ⟨y, rfl⟩ := b.ex
    obtain ⟨z, rfl⟩ := c.ex
    constructor
    · rintro ⟨C, hC⟩
      refine ⟨C, fun i => ?_⟩
      have := hC i
      show (x.f i + z.f i) - (y.f i + z.f i) ≤ _
      grind
    · rintro ⟨C, hC⟩
      refine ⟨C, fun i => ?_⟩
      have : (x.f i + z.f i) - (y.f i + z.f i) ≤ C * h i := hC i
      grind
  zero_lt_one := Re.lt_of (x := (cst 1).add (cst 0).neg) rfl (Sq.not_le_zero (q := 1) (i := 0) (by decide) fun j _ => by show (1 : Rat) ≤ 1 + -0; grind)
  mul_lt_mul_of_pos_left {a b c} l1 l2 := by
    obtain ⟨x, e1, h1⟩ := Re.sub_pos l1
    obtain ⟨y, e2, h2⟩ := Re.sub_pos l2
    refine Re.lt_of (x := y.mul x) ?_ (Re.mul_pos h2 h1)
    show _ = Re.of y * Re.of x
    rw [← e1, ← e2]
    grind
  mul_lt_mul_of_pos_right {a b c} l1 l2 := by
    obtain ⟨x, e1, h1⟩ := Re.sub_pos l1
    obtain ⟨y, e2, h2⟩ := Re.sub_pos l2
    refine Re.lt_of (x := x.mul y) ?_ (Re.mul_pos h1 h2)
    show _ = Re.of x * Re.of y
    rw [← e1, ← e2]
    grind
end Cox

/-! The numbers of the orders: 2 cos (pi / m), by halving intervals. -/
namespace Cox
open Lean.Grind
def Useq (a : Sq) : Nat → Sq
  | 0 => cst 1
  | 1 => a
  | k + 2 => (a.mul (Useq a (k + 1))).add (Useq a k).neg
theorem useq_f (a : Sq) (i : Nat) : ∀ k, (Useq a k).f i = U (a.f i) k
  | 0 => rfl
  | 1 => rfl
  | k + 2 => by
    show a.f i * (Useq a (k + 1)).f i + -(Useq a k).f i = a.f i * U (a.f i) (k + 1) - U (a.f i) k
    rw [useq_f a i (k + 1), useq_f a i k]
    grind
theorem useq_of (a : Sq) : ∀ k, U (Re.of a) k = Re.of (Useq a k)
  | 0 => rfl
  | 1 => rfl
  | k + 2 => by
    show Re.of a * U (Re.of a) (k + 1) - U (Re.of a) k = Re.of a * Re.of (Useq a (k + 1)) + -(Re.of (Useq a k))
    rw [useq_of a (k + 1), useq_of a k]
    grind
theorem of_nonneg {a : Sq} (hp : ∀ i, 0 ≤ a.f i) : 0 ≤ Re.of a := ⟨0, fun i => by
  have := hp i
  show 0 - a.f i ≤ 0 * h i
  grind⟩
theorem of_nonpos {a : Sq} (hp : ∀ i, a.f i ≤ 0) : Re.of a ≤ 0 := ⟨0, fun i => by
  have := hp i
  show a.f i - 0 ≤ 0 * h i
  grind⟩
/-! halving -/
structure Half (P : Rat → Rat) (lo hi : Rat) (w : Rat) : Prop where
  l : P lo ≤ 0
  r : 0 ≤ P hi
  d : hi = lo + w
def mid (P : Rat → Rat) (x w : Rat) : Rat := if P (x + w / 2) ≤ 0 then x + w / 2 else x
def bis (P : Rat → Rat) (lo w : Rat) : Nat → Rat
  | 0 => lo
  | i + 1 => mid P (bis P lo w i) (w * h i)
theorem bis_half {P : Rat → Rat} {lo w : Rat} (h1 : P lo ≤ 0) (h2 : 0 ≤ P (lo + w)) : ∀ i, P (bis P lo w i) ≤ 0 ∧ 0 ≤ P (bis P lo w i + w * h i)
  | 0 => ⟨h1, by show 0 ≤ P (lo + w * 1); rw [show w * 1 = w by grind]; exact h2⟩
  | i + 1 => by
    have ih := bis_half h1 h2 i
    have e : w * h (i + 1) = w * h i / 2 := by
      show w * (h i / 2) = _
      grind
    show P (mid P (bis P lo w i) (w * h i)) ≤ 0 ∧ 0 ≤ P (mid P (bis P lo w i) (w * h i) + w * h (i + 1))
    unfold mid
    rw [e]
    by_cases c : P (bis P lo w i + w * h i / 2) ≤ 0
    · rw [if_pos c]
      refine ⟨c, ?_⟩
      rw [show bis P lo w i + w * h i / 2 + w * h i / 2 = bis P lo w i + w * h i by grind]
      exact ih.2
    · rw [if_neg c]
      exact ⟨ih.1, by grind⟩
theorem bis_step {P : Rat → Rat} {lo w : Rat} (hw : 0 ≤ w) (i : Nat) : ∀ d, bis P lo w i ≤ bis P lo w (i + d) ∧ bis P lo w (i + d) + w * h (i + d) ≤ bis P lo w i + w * h i
  | 0 => ⟨Rat.le_refl, Rat.le_refl⟩
  | d + 1 => by
    have ih := bis_step hw i d (P := P) (lo := lo)
    have p := h_pos (i + d + 1)
    have e := h_succ (i + d)
    have z := Rat.mul_nonneg hw (show 0 ≤ h (i + d + 1) by grind)
    show bis P lo w i ≤ mid P (bis P lo w (i + d)) (w * h (i + d)) ∧ mid P (bis P lo w (i + d)) (w * h (i + d)) + w * h (i + d + 1) ≤ _
    unfold mid
    have e2 : w * h (i + d) / 2 = w * h (i + d + 1) := by
      rw [e]
      grind
    have e3 : w * h (i + d) = w * h (i + d + 1) + w * h (i + d + 1) := by rw [e]; grind
    rw [e2]
    split <;> grind
def bisq (P : Rat → Rat) (lo w : Rat) (hw : 0 ≤ w) : Sq := ⟨bis P lo w, w, fun i j hij => by
  obtain ⟨d, rfl⟩ : ∃ d, j = i + d := ⟨j - i, by omega⟩
  have a := bis_step hw i d (P := P) (lo := lo)
  have p := h_pos (i + d)
  have q := h_pos i
  have z := Rat.mul_nonneg hw (show 0 ≤ h (i + d) by grind)
  have y := Rat.mul_nonneg hw (show 0 ≤ h i by grind)
  grind⟩
theorem bis_in {P : Rat → Rat} {lo w : Rat} (hw : 0 ≤ w) (i : Nat) : lo ≤ bis P lo w i ∧ bis P lo w i ≤ lo + w := by
  have a := bis_step hw 0 i (P := P) (lo := lo)
  rw [Nat.zero_add] at a
  have p := h_pos i
  have z := Rat.mul_nonneg hw (show 0 ≤ h i by grind)
  have e : bis P lo w 0 = lo := rfl
  have e2 : h 0 = 1 := rfl
  rw [e, e2] at a
  grind
/-- where the sign of U n changes, it is 0 -/
theorem root_ex (n : Nat) (lo w : Rat) (hw : 0 ≤ w) (h1 : U lo n ≤ 0) (h2 : 0 ≤ U (lo + w) n) : ∃ a : Sq, (∀ i, lo ≤ a.f i ∧ a.f i ≤ lo + w) ∧ U (Re.of a) n = 0 := by
  refine ⟨bisq (fun x => U x n) lo w hw, bis_in hw, ?_⟩
  have b := bis_half (P := fun x => U x n) h1 h2
  have up : Re.of (bisq (fun x => U x n) lo w hw) = Re.of ((bisq (fun x => U x n) lo w hw).add ⟨fun i => w * h i, w, fun i j hij => by
      obtain ⟨d, rfl⟩ : ∃ d, j = i + d := ⟨j - i, by omega⟩
      have a := bis_step hw i d (P := fun _ => (0 : Rat)) (lo := 0)
      have anti : ∀ d : Nat, h (i + d) ≤ h i := fun d => by
        induction d with
        | zero => exact Rat.le_refl
        | succ d ih =>
          have b := h_succ (i + d)
          have p := h_pos (i + d + 1)
          show h (i + d + 1) ≤ h i
          grind
      have p := h_pos (i + d)
      have x := Rat.mul_nonneg hw (show 0 ≤ h i - h (i + d) by have := anti d; grind)
      have y := Rat.mul_nonneg hw (show 0 ≤ h (i + d) by grind)
      grind⟩) := Quotient.sound ⟨w, fun i => by
    have p := h_pos i
    have y := Rat.mul_nonneg hw (show 0 ≤ h i by grind)
    show bis _ lo w i - (bis _ lo w i + w * h i) ≤ w * h i ∧ (bis _ lo w i + w * h i) - bis _ lo w i ≤ w * h i
    grind⟩
  refine Std.IsPartialOrder.le_antisymm _ _ ?_ ?_
  · rw [useq_of]
    exact of_nonpos fun i => by rw [useq_f]; exact (b i).1
  · rw [up, useq_of]
    exact of_nonneg fun i => by rw [useq_f]; exact (b i).2
end Cox

/-! For each order the number that it stands for, with its signs; the numbers of three orders. -/
namespace Cox
open Lean.Grind
/-- bounds of U over an interval -/
def IU (lo hi : Rat) : Nat → Rat × Rat
  | 0 => (1, 1)
  | 1 => (lo, hi)
  | k + 2 => (lo * (IU lo hi (k + 1)).1 - (IU lo hi k).2, hi * (IU lo hi (k + 1)).2 - (IU lo hi k).1)
theorem iu_sound {lo hi b : Rat} (h0 : 0 ≤ lo) (h1 : lo ≤ b) (h2 : b ≤ hi) : ∀ k, (∀ j, j < k → 0 ≤ (IU lo hi j).1) → (IU lo hi k).1 ≤ U b k ∧ U b k ≤ (IU lo hi k).2
  | 0, _ => ⟨Rat.le_refl, Rat.le_refl⟩
  | 1, _ => ⟨h1, h2⟩
  | k + 2, hp => by
    have a := iu_sound h0 h1 h2 (k + 1) fun j hj => hp j (by omega)
    have c := iu_sound h0 h1 h2 k fun j hj => hp j (by omega)
    have p := hp (k + 1) (by omega)
    have x := Rat.mul_nonneg (show 0 ≤ b - lo by grind) p
    have y := Rat.mul_nonneg (show 0 ≤ b by grind) (show 0 ≤ U b (k + 1) - (IU lo hi (k + 1)).1 by grind)
    have z := Rat.mul_nonneg (show 0 ≤ hi - b by grind) (show 0 ≤ U b (k + 1) by grind)
    have u := Rat.mul_nonneg (show 0 ≤ hi by grind) (show 0 ≤ (IU lo hi (k + 1)).2 - U b (k + 1) by grind)
    show lo * (IU lo hi (k + 1)).1 - (IU lo hi k).2 ≤ b * U b (k + 1) - U b k ∧ b * U b (k + 1) - U b k ≤ hi * (IU lo hi (k + 1)).2 - (IU lo hi k).1
    grind
/-- what is asked of the number of an order -/
structure Num (m : Nat) (c : Re) : Prop where
  zero : ∀ n, m = n + 1 → U c n = 0
  pos : ∀ k, (m = 0 ∨ k < m) → 0 ≤ U c k
  one : ∀ k, (m = 0 ∨ k < m) → 1 ≤ U c k + Up c k
theorem u_norm {R : Type} [CommRing R] (b : R) : ∀ k, U b (k + 1) * U b (k + 1) - b * U b (k + 1) * U b k + U b k * U b k = 1
  | 0 => by show b * b - b * b * 1 + 1 * 1 = 1; grind
  | k + 1 => by
    have ih := u_norm b k
    show (b * U b (k + 1) - U b k) * (b * U b (k + 1) - U b k) - b * (b * U b (k + 1) - U b k) * U b (k + 1) + U b (k + 1) * U b (k + 1) = 1
    grind
/-- an order from 3 on, by an interval -/
theorem num_of (n : Nat) (lo hi : Rat) (h0 : 0 ≤ lo) (hw : lo ≤ hi) (h1 : U lo (n + 2) ≤ 0) (h2 : 0 ≤ U hi (n + 2)) (hp : ∀ k, k < n + 2 → 0 ≤ (IU lo hi k).1) (ho : ∀ k, k < n + 1 → 1 ≤ (IU lo hi (k + 1)).1 + (IU lo hi k).1) :
    ∃ a : Sq, (∀ i, lo ≤ a.f i ∧ a.f i ≤ hi) ∧ Num (n + 3) (Re.of a) := by
  obtain ⟨a, ha, hz⟩ := root_ex (n + 2) lo (hi - lo) (by grind) h1 (by rw [show lo + (hi - lo) = hi by grind]; exact h2)
  rw [show lo + (hi - lo) = hi by grind] at ha
  have low : ∀ k, k < n + 2 → ∀ i, (IU lo hi k).1 ≤ U (a.f i) k := fun k hk i => (iu_sound h0 (ha i).1 (ha i).2 k fun j hj => hp j (by omega)).1
  have pos : ∀ k, k < n + 2 → 0 ≤ U (Re.of a) k := fun k hk => by
    rw [useq_of]
    exact of_nonneg fun i => by
      rw [useq_f]
      exact Rat.le_trans (hp k hk) (low k hk i)
  refine ⟨a, ha, fun m hm => ?_, fun k hk => ?_, fun k hk => ?_⟩
  · have : m = n + 2 := by omega
    rw [this]
    exact hz
  · have hk := hk.resolve_left (by omega)
    by_cases c : k = n + 2
    · rw [c, hz]
      exact Std.IsPreorder.le_refl _
    · exact pos k (by omega)
  · have hk := hk.resolve_left (by omega)
    cases k with
    | zero =>
      show (1 : Re) ≤ 1 + 0
      grind
    | succ k =>
      show 1 ≤ U (Re.of a) (k + 1) + U (Re.of a) k
      by_cases c : k + 1 = n + 2
      · have hk2 : k = n + 1 := by omega
        subst hk2
        have nm := u_norm (Re.of a) (n + 1)
        have p := pos (n + 1) (by omega)
        rw [hz] at nm ⊢
        rcases Std.IsLinearPreorder.le_total (1 : Re) (U (Re.of a) (n + 1)) with l | l
        · grind
        · have q := OrderedRing.mul_nonneg (show (0 : Re) ≤ 1 - U (Re.of a) (n + 1) by grind) p
          have q2 : (1 - U (Re.of a) (n + 1)) * U (Re.of a) (n + 1) = U (Re.of a) (n + 1) - 1 := by grind
          rw [q2] at q
          grind
      · have s : 0 ≤ Re.of ((Useq a (k + 1)).add ((Useq a k).add (cst (-1)))) := of_nonneg fun i => by
          show 0 ≤ (Useq a (k + 1)).f i + ((Useq a k).f i + -1)
          rw [useq_f, useq_f]
          have x := low (k + 1) (by omega) i
          have y := low k (by omega) i
          have z := ho k (by omega)
          grind
        have e : Re.of ((Useq a (k + 1)).add ((Useq a k).add (cst (-1)))) = U (Re.of a) (k + 1) + (U (Re.of a) k + -1) := by
          rw [useq_of, useq_of]
          rfl
        rw [e] at s
        grind
/-- the bounds of the numbers, in parts of 2 ^ 30 -/
def low : Nat → Int
  | 3 => 1073741824
  | 4 => 1518500249
  | 5 => 1737350766
  | 6 => 1859775393
  | 7 => 1934815911
  | 8 => 1984016188
  | 9 => 2017974537
  | 10 => 2042378317
  | 11 => 2060495471
  | 12 => 2074309917
  | _ => 0
def loR (m : Nat) : Rat := mkRat (low m) (2 ^ 30)
def hiR (m : Nat) : Rat := mkRat (low m + 1) (2 ^ 30)
theorem checks : ∀ n : Fin 10, 0 ≤ loR (n.1 + 3) ∧ loR (n.1 + 3) ≤ hiR (n.1 + 3) ∧ U (loR (n.1 + 3)) (n.1 + 2) ≤ 0 ∧ 0 ≤ U (hiR (n.1 + 3)) (n.1 + 2) ∧ (∀ k : Fin (n.1 + 2), 0 ≤ (IU (loR (n.1 + 3)) (hiR (n.1 + 3)) k.1).1) ∧ (∀ k : Fin (n.1 + 1), 1 ≤ (IU (loR (n.1 + 3)) (hiR (n.1 + 3)) (k.1 + 1)).1 + (IU (loR (n.1 + 3)) (hiR (n.1 + 3)) k.1).1) := by decide +kernel
theorem num_big (m : Nat) (h3 : 3 ≤ m) (h12 : m ≤ 12) : ∃ a : Sq, (∀ i, loR m ≤ a.f i ∧ a.f i ≤ hiR m) ∧ Num m (Re.of a) := by
  obtain ⟨n, rfl⟩ : ∃ n, m = n + 3 := ⟨m - 3, by omega⟩
  obtain ⟨c1, c2, c3, c4, c5, c6⟩ := checks ⟨n, by omega⟩
  exact num_of n _ _ c1 c2 c3 c4 (fun k hk => c5 ⟨k, hk⟩) fun k hk => c6 ⟨k, hk⟩
theorem num_two : Num 2 (Re.of (cst 0)) := by
  have e : Re.of (cst 0) = (0 : Re) := rfl
  rw [e]
  refine ⟨fun n hn => ?_, fun k hk => ?_, fun k hk => ?_⟩
  · have : n = 1 := by omega
    subst this
    rfl
  · have hk := hk.resolve_left (by omega)
    match k, hk with
    | 0, _ => show (0 : Re) ≤ 1; grind
    | 1, _ => show (0 : Re) ≤ 0; grind
  · have hk := hk.resolve_left (by omega)
    match k, hk with
    | 0, _ => show (1 : Re) ≤ 1 + 0; grind
    | 1, _ => show (1 : Re) ≤ 0 + 1; grind
theorem num_none : Num 0 (Re.of (cst 2)) := by
  have e : Re.of (cst 2) = (2 : Re) := rfl
  rw [e]
  have up : ∀ k, 0 ≤ U (2 : Re) k ∧ U (2 : Re) (k + 1) = U (2 : Re) k + 1 := fun k => by
    induction k with
    | zero =>
      show (0 : Re) ≤ 1 ∧ (2 : Re) = 1 + 1
      grind
    | succ k ih =>
      obtain ⟨i1, i2⟩ := ih
      have s : U (2 : Re) (k + 2) = 2 * U 2 (k + 1) - U 2 k := rfl
      grind
  refine ⟨fun n hn => by omega, fun k _ => (up k).1, fun k _ => ?_⟩
  cases k with
  | zero => show (1 : Re) ≤ 1 + 0; grind
  | succ k =>
    show (1 : Re) ≤ U 2 (k + 1) + U 2 k
    have a := up k
    grind
end Cox

/-! The word theorem for three orders, each 0 or from 2 to 12. -/
namespace Cox
open Lean.Grind
/-- three things for the three pairs of letters, one for equal letters -/
def tri {α : Type} (d x01 x12 x02 : α) (i j : Fin 3) : α := if i = j then d else if i.1 + j.1 = 1 then x01 else if i.1 + j.1 = 3 then x12 else x02
theorem tri_sym {α : Type} (d x y z : α) (i j : Fin 3) : tri d x y z i j = tri d x y z j i := by
  unfold tri
  by_cases h : i = j
  · rw [if_pos h, if_pos h.symm]
  · rw [if_neg h, if_neg (show ¬ j = i from fun z => h z.symm), Nat.add_comm]
def om (a b c : Nat) : Fin 3 → Fin 3 → Nat := tri 0 a b c
def okOrd (m : Nat) : Prop := m = 0 ∨ 2 ≤ m ∧ m ≤ 12
/-- the bounds of the number of an order -/
def loN (m : Nat) : Rat := if m = 0 then 2 else if m = 2 then 0 else loR m
def hiN (m : Nat) : Rat := if m = 0 then 2 else if m = 2 then 0 else hiR m
theorem num_ex (m : Nat) (h : okOrd m) : ∃ a : Sq, (∀ i, loN m ≤ a.f i ∧ a.f i ≤ hiN m) ∧ Num m (Re.of a) := by
  unfold loN hiN
  rcases h with rfl | ⟨h2, h12⟩
  · exact ⟨cst 2, fun i => by rw [if_pos rfl, if_pos rfl]; exact ⟨Rat.le_refl, Rat.le_refl⟩, num_none⟩
  · by_cases c : m = 2
    · subst c
      exact ⟨cst 0, fun i => by simp only [if_neg (show ¬ (2 : Nat) = 0 by decide), if_true]; exact ⟨Rat.le_refl, Rat.le_refl⟩, num_two⟩
    · rw [if_neg (by omega), if_neg c, if_neg (by omega), if_neg c]
      exact num_big m (by omega) h12
theorem ord_of {a b c : Nat} {x y z : Re} (hx : Num a x) (hy : Num b y) (hz : Num c z) : Ord (om a b c) (tri (-2) x y z) := by
  have each : ∀ i j, i ≠ j → Num (om a b c i j) (tri (-2) x y z i j) := fun i j hij => by
    unfold om tri
    rw [if_neg hij, if_neg hij]
    by_cases c1 : i.1 + j.1 = 1
    · rw [if_pos c1, if_pos c1]; exact hx
    · rw [if_neg c1, if_neg c1]
      by_cases c2 : i.1 + j.1 = 3
      · rw [if_pos c2, if_pos c2]; exact hy
      · rw [if_neg c2, if_neg c2]; exact hz
  exact {
    two := fun i => by unfold tri; rw [if_pos rfl]
    sym := tri_sym _ _ _ _
    msym := tri_sym _ _ _ _
    zero := fun i j n hij hm => (each i j hij).zero n hm
    pos := fun i j k hij hk => (each i j hij).pos k hk
    one := fun i j k hij hk => (each i j hij).one k hk }
/-- for three orders: rational sequences near which their numbers lie -/
theorem ord_ex {a b c : Nat} (ha : okOrd a) (hb : okOrd b) (hc : okOrd c) : ∃ x y z : Sq, (∀ i, loN a ≤ x.f i ∧ x.f i ≤ hiN a) ∧ (∀ i, loN b ≤ y.f i ∧ y.f i ≤ hiN b) ∧ (∀ i, loN c ≤ z.f i ∧ z.f i ≤ hiN c) ∧
    Num a (Re.of x) ∧ Num b (Re.of y) ∧ Num c (Re.of z) ∧ Ord (om a b c) (tri (-2) (Re.of x) (Re.of y) (Re.of z)) := by
  obtain ⟨x, hx, nx⟩ := num_ex a ha
  obtain ⟨y, hy, ny⟩ := num_ex b hb
  obtain ⟨z, hz, nz⟩ := num_ex c hc
  exact ⟨x, y, z, hx, hy, hz, nx, ny, nz, ord_of nx ny nz⟩
/-- turns alone connect the shortest words of a tile -/
theorem word_turns {a b c : Nat} (ha : okOrd a) (hb : okOrd b) (hc : okOrd c) {u w : W} (hu : Red (om a b c) u) (hw : Red (om a b c) w) (h : Eqv (om a b c) u w) : Tn (om a b c) u w := by
  obtain ⟨x, y, z, _, _, _, _, _, _, O⟩ := ord_ex ha hb hc
  exact turns O _ u w rfl hu hw h
/-- turns lead from any other word to two equal letters next to each other -/
theorem word_cut {a b c : Nat} (ha : okOrd a) (hb : okOrd b) (hc : okOrd c) {w : W} (hw : ¬ Red (om a b c) w) : ∃ (u v : W) (s : Fin 3), Tn (om a b c) w (u ++ ([s, s] ++ v)) := by
  obtain ⟨x, y, z, _, _, _, _, _, _, O⟩ := ord_ex ha hb hc
  exact shorten O w hw
end Cox
#print axioms Cox.word_turns
#print axioms Cox.word_cut

/-! The program's depths, by integers: how wrong they are, and what their signs tell. -/
namespace Cox
open Lean.Grind
section
variable {R : Type} [CommRing R]
def stepG (c : Fin 3 → Fin 3 → R) (i : Fin 3) (d : Fin 3 → R) : Fin 3 → R := fun j => if j = i then -d i else d j + c i j * d i
def depG (c : Fin 3 → Fin 3 → R) (w : W) : Fin 3 → R := w.foldr (stepG c) (fun _ => 1)
def sumv (v : V3 R) : R := v 0 + v 1 + v 2
theorem sumv_lc (p q : R) (x y : V3 R) : sumv (lc p x q y) = p * sumv x + q * sumv y := by
  unfold sumv lc
  grind
theorem act_other {m : Fin 3 → Fin 3 → Nat} {c : Fin 3 → Fin 3 → R} (G : Geo m c) {i j : Fin 3} (hij : i ≠ j) : act c i (e j) = lc 1 (e j) (c i j) (e i) := by
  funext k
  unfold act bump lc
  have d : dot c i (e j) = c i j := by
    unfold dot e
    have h3 : j = 0 ∨ j = 1 ∨ j = 2 := by
      rcases j with ⟨j, hj⟩
      have : j = 0 ∨ j = 1 ∨ j = 2 := by omega
      rcases this with rfl | rfl | rfl
      · exact .inl rfl
      · exact .inr (.inl rfl)
      · exact .inr (.inr rfl)
    rcases h3 with rfl | rfl | rfl <;> simp <;> grind
  rw [d]
  unfold e
  by_cases h : k = i
  · simp only [if_pos h]; grind
  · simp only [if_neg h]; grind
theorem act_self {m : Fin 3 → Fin 3 → Nat} {c : Fin 3 → Fin 3 → R} (G : Geo m c) (s : Fin 3) : act c s (e s) = lc (-1) (e s) 0 (e s) := by
  have h2 := G.two s
  funext k
  unfold act bump lc
  have d : dot c s (e s) = c s s := by
    unfold dot e
    have h3 : s = 0 ∨ s = 1 ∨ s = 2 := by
      rcases s with ⟨s, hs⟩
      have : s = 0 ∨ s = 1 ∨ s = 2 := by omega
      rcases this with rfl | rfl | rfl
      · exact .inl rfl
      · exact .inr (.inl rfl)
      · exact .inr (.inr rfl)
    rcases h3 with rfl | rfl | rfl <;> simp <;> grind
  rw [d, h2]
  unfold e
  by_cases h : k = s
  · simp only [if_pos h]; grind
  · simp only [if_neg h]; grind
theorem sumv_e (j : Fin 3) : sumv (e j : V3 R) = 1 := by
  unfold sumv e
  have h3 : j = 0 ∨ j = 1 ∨ j = 2 := by
    rcases j with ⟨j, hj⟩
    have : j = 0 ∨ j = 1 ∨ j = 2 := by omega
    rcases this with rfl | rfl | rfl
    · exact .inl rfl
    · exact .inr (.inl rfl)
    · exact .inr (.inr rfl)
  rcases h3 with rfl | rfl | rfl <;> simp <;> grind
/-- a depth is the sum of a root's coordinates -/
theorem depG_root {m : Fin 3 → Fin 3 → Nat} {c : Fin 3 → Fin 3 → R} (G : Geo m c) : ∀ (w : W) (j : Fin 3), depG c w j = sumv (actw c w.reverse (e j))
  | [], j => (sumv_e j).symm
  | i :: w, j => by
    show stepG c i (depG c w) j = _
    rw [List.reverse_cons, actw_append]
    show _ = sumv (actw c w.reverse (act c i (e j)))
    unfold stepG
    by_cases hj : j = i
    · subst hj
      rw [if_pos rfl, act_self G, actw_lc, sumv_lc, depG_root G w j]
      grind
    · rw [if_neg hj, act_other G (fun z => hj z.symm), actw_lc, sumv_lc, depG_root G w j, depG_root G w i]
      grind
end
section
variable {R : Type} [CommRing R] [LE R] [LT R] [Std.LawfulOrderLT R] [Std.IsLinearOrder R] [OrderedRing R]
variable {m : Fin 3 → Fin 3 → Nat} {c : Fin 3 → Fin 3 → R}
theorem cons_reverse (w : W) (j : Fin 3) : ln m (j :: w) = ln m (w.reverse ++ [j]) := by
  rw [← ln_reverse, List.reverse_cons]
theorem dep_far (O : Ord m c) {w : W} {j : Fin 3} (h : ln m (j :: w) = ln m w + 1) : 1 ≤ depG c w j := by
  rw [depG_root O.toGeo]
  rw [cons_reverse, ← ln_reverse w] at h
  exact (root_pos O _ w.reverse j (Nat.le_refl _) h).2
theorem dep_near (O : Ord m c) {w : W} {j : Fin 3} (h : ln m w = ln m (j :: w) + 1) : depG c w j ≤ -1 := by
  rw [depG_root O.toGeo]
  rw [cons_reverse, ← ln_reverse w] at h
  obtain ⟨v, hv, e⟩ := root_neg O w.reverse j h
  rw [e, sumv_lc]
  have := hv.2
  have e : sumv v = v 0 + v 1 + v 2 := rfl
  grind
end
/-! members of sequences -/
def depS (c : Fin 3 → Fin 3 → Sq) : W → Fin 3 → Sq
  | [], _ => cst 1
  | i :: w, j => if j = i then (depS c w i).neg else (depS c w j).add ((c i j).mul (depS c w i))
theorem depS_of (c : Fin 3 → Fin 3 → Sq) (cR : Fin 3 → Fin 3 → Re) (hc : ∀ i j, i ≠ j → cR i j = Re.of (c i j)) : ∀ (w : W) (j : Fin 3), depG cR w j = Re.of (depS c w j)
  | [], j => rfl
  | i :: w, j => by
    show stepG cR i (depG cR w) j = Re.of (if j = i then (depS c w i).neg else (depS c w j).add ((c i j).mul (depS c w i)))
    unfold stepG
    by_cases hj : j = i
    · rw [if_pos hj, if_pos hj, depS_of c cR hc w i]
      rfl
    · rw [if_neg hj, if_neg hj, depS_of c cR hc w i, depS_of c cR hc w j, hc i j (fun z => hj z.symm)]
      rfl
theorem depS_f (c : Fin 3 → Fin 3 → Sq) (N : Nat) : ∀ (w : W) (j : Fin 3), (depS c w j).f N = depG (fun i j => (c i j).f N) w j
  | [], j => rfl
  | i :: w, j => by
    show (if j = i then (depS c w i).neg else (depS c w j).add ((c i j).mul (depS c w i))).f N = stepG (fun i j => (c i j).f N) i (depG (fun i j => (c i j).f N) w) j
    unfold stepG
    by_cases hj : j = i
    · rw [if_pos hj, if_pos hj]
      show -(depS c w i).f N = _
      rw [depS_f c N w i]
    · rw [if_neg hj, if_neg hj]
      show (depS c w j).f N + (c i j).f N * (depS c w i).f N = _
      rw [depS_f c N w i, depS_f c N w j]
theorem ge_member {a : Sq} (h1 : 1 ≤ Re.of a) : ∃ N, ∀ q : Rat, q = a.f N → 3 ≤ 4 * q := by
  obtain ⟨C, hC⟩ := (show (cst 1).le a from h1)
  obtain ⟨N, hN⟩ := h_small (1 / 4) (by decide +kernel) C
  refine ⟨N, fun q hq => ?_⟩
  have x : 1 - a.f N ≤ C * h N := hC N
  have f : (1 / 4 : Rat) * 4 = 1 := by decide +kernel
  grind
/-! the integers -/
def stepI (B : Fin 3 → Fin 3 → Int) (T : Int) (i : Fin 3) (D : Fin 3 → Int) : Fin 3 → Int := fun j => if j = i then -D i else D j + B i j * D i / T
def depI (B : Fin 3 → Fin 3 → Int) (T : Int) (w : W) : Fin 3 → Int := w.foldr (stepI B T) (fun _ => T)
theorem le_of_mul {t x y : Rat} (ht : 0 < t) (l : t * x ≤ t * y) : x ≤ y := by
  by_cases c : x ≤ y
  · exact c
  · have := Rat.mul_pos ht (show 0 < x - y by grind)
    grind
/-- one mirror: an error e becomes at most 3 e + 2 M + 3 -/
theorem err_step {T q b D c d M e : Rat} (hT : 0 < T) (h1 : q * T ≤ b * D) (h2 : b * D ≤ q * T + T) (hb : -2 ≤ b - T * c ∧ b - T * c ≤ 2) (hc : 0 ≤ c ∧ c ≤ 2) (hd : -M ≤ d ∧ d ≤ M) (he : -e ≤ D - T * d ∧ D - T * d ≤ e) (heT : e ≤ T) (e0 : 0 ≤ e) :
    -(2 * e + 2 * M + 3) ≤ q - T * (c * d) ∧ q - T * (c * d) ≤ 2 * e + 2 * M + 3 := by
  have p1 := mul_bd (a := c) (b := D - T * d) (B := 2) (D := e) (by grind) hc.2 he.1 he.2
  have p2 := mul_bd (a := -c) (b := D - T * d) (B := 2) (D := e) (by grind) (by grind) he.1 he.2
  have m1 := Rat.mul_nonneg (show 0 ≤ T by grind) (show 0 ≤ M - d by grind)
  have m2 := Rat.mul_nonneg (show 0 ≤ T by grind) (show 0 ≤ d + M by grind)
  have p3 := mul_bd (a := b - T * c) (b := D) (B := 2) (D := T * M + T) hb.1 hb.2 (by grind) (by grind)
  have p4 := mul_bd (a := -(b - T * c)) (b := D) (B := 2) (D := T * M + T) (by grind) (by grind) (by grind) (by grind)
  have u1 := Rat.mul_nonneg (show 0 ≤ T by grind) (show 0 ≤ 2 * e - c * (D - T * d) by grind)
  have u2 := Rat.mul_nonneg (show 0 ≤ T by grind) (show 0 ≤ 2 * e - -c * (D - T * d) by grind)
  constructor
  · refine le_of_mul hT ?_
    grind
  · refine le_of_mul hT ?_
    grind
end Cox

/-! Errors of all steps; the signs of the integers tell the lengths. -/
namespace Cox
open Lean.Grind
def p3 : Nat → Rat
  | 0 => 1
  | k + 1 => 3 * p3 k
theorem p3_ge : ∀ k, 1 ≤ p3 k
  | 0 => Rat.le_refl
  | k + 1 => by
    have := p3_ge k
    show 1 ≤ 3 * p3 k
    grind
theorem kp_mono (k : Nat) : (k : Rat) * p3 k ≤ ((k + 1 : Nat) : Rat) * p3 (k + 1) := by
  have a := p3_ge k
  have n : (0 : Rat) ≤ (k : Rat) := by grind
  have x := Rat.mul_nonneg n (show 0 ≤ p3 k by grind)
  show _ ≤ ((k + 1 : Nat) : Rat) * (3 * p3 k)
  have e : ((k + 1 : Nat) : Rat) * (3 * p3 k) = 3 * ((k : Rat) * p3 k) + 3 * p3 k := by grind
  rw [e]
  grind
theorem kp_le (k : Nat) : ∀ d, (k : Rat) * p3 k ≤ ((k + d : Nat) : Rat) * p3 (k + d)
  | 0 => Rat.le_refl
  | d + 1 => Rat.le_trans (kp_le k d) (kp_mono (k + d))
theorem floor_cast (b D T : Int) (hT : 0 < T) : (((b * D / T : Int)) : Rat) * (T : Rat) ≤ (b : Rat) * (D : Rat) ∧ (b : Rat) * (D : Rat) ≤ ((b * D / T : Int) : Rat) * (T : Rat) + (T : Rat) := by
  have a := Int.ediv_mul_le (b * D) (show T ≠ 0 by omega)
  have c := Int.lt_ediv_add_one_mul_self (b * D) hT
  have a2 : ((b * D / T * T : Int) : Rat) ≤ ((b * D : Int) : Rat) := Rat.intCast_le_intCast.mpr a
  have c2 : ((b * D : Int) : Rat) ≤ (((b * D / T + 1) * T : Int) : Rat) := Rat.intCast_le_intCast.mpr (by omega)
  rw [Rat.intCast_mul, Rat.intCast_mul] at a2
  rw [Rat.intCast_mul, Rat.intCast_mul, Rat.intCast_add] at c2
  have one : ((1 : Int) : Rat) = 1 := rfl
  rw [one] at c2
  refine ⟨a2, ?_⟩
  grind
structure Near (B : Fin 3 → Fin 3 → Int) (T : Int) (c : Fin 3 → Fin 3 → Rat) : Prop where
  b : ∀ i j, i ≠ j → -2 ≤ (B i j : Rat) - (T : Rat) * c i j ∧ (B i j : Rat) - (T : Rat) * c i j ≤ 2
  c : ∀ i j, i ≠ j → 0 ≤ c i j ∧ c i j ≤ 2
theorem err {B : Fin 3 → Fin 3 → Int} {T : Int} {c : Fin 3 → Fin 3 → Rat} (hT : 0 < T) (hn : Near B T c) (K : Nat) (hK : 2 * ((K : Rat) * p3 K) ≤ (T : Rat)) : ∀ w : W, w.length ≤ K → ∀ j, (-(2 * ((w.length : Rat) * p3 w.length)) ≤ (depI B T w j : Rat) - (T : Rat) * depG c w j ∧ (depI B T w j : Rat) - (T : Rat) * depG c w j ≤ 2 * ((w.length : Rat) * p3 w.length)) ∧ (-(p3 w.length) ≤ depG c w j ∧ depG c w j ≤ p3 w.length)
  | [], _, j => by
    have e1 : depI B T [] j = T := rfl
    have e2 : depG c [] j = 1 := rfl
    have e3 : p3 ([] : W).length = 1 := rfl
    have e4 : ((([] : W).length : Nat) : Rat) = 0 := rfl
    rw [e1, e2, e3, e4]
    grind
  | i :: w, hw, j => by
    have hw2 : w.length + 1 ≤ K := hw
    have ih := err hT hn K hK w (by omega)
    have hTr : (0 : Rat) < (T : Rat) := by
      have : ((0 : Int) : Rat) < (T : Rat) := Rat.intCast_lt_intCast.mpr hT
      exact this
    have p := p3_ge w.length
    have n : (0 : Rat) ≤ (w.length : Rat) := by grind
    have e0 := Rat.mul_nonneg n (show 0 ≤ p3 w.length by grind)
    have eT : 2 * ((w.length : Rat) * p3 w.length) ≤ (T : Rat) := by
      have x := kp_le w.length (K - w.length)
      rw [show w.length + (K - w.length) = K by omega] at x
      grind
    have eL : (((i :: w).length : Nat) : Rat) * p3 (i :: w).length = 3 * ((w.length : Rat) * p3 w.length) + 3 * p3 w.length := by
      show ((w.length + 1 : Nat) : Rat) * (3 * p3 w.length) = _
      grind
    have eP : p3 (i :: w).length = 3 * p3 w.length := rfl
    rw [eL, eP]
    have eI : depI B T (i :: w) j = stepI B T i (depI B T w) j := rfl
    have eD : depG c (i :: w) j = stepG c i (depG c w) j := rfl
    rw [eI, eD]
    unfold stepI stepG
    by_cases hj : j = i
    · rw [if_pos hj, if_pos hj]
      have a := ih i
      have ng : ((-depI B T w i : Int) : Rat) = -(depI B T w i : Rat) := Rat.intCast_neg _
      rw [ng]
      grind
    · rw [if_neg hj, if_neg hj]
      have a := ih i
      have d := ih j
      have hij : i ≠ j := fun z => hj z.symm
      have fl := floor_cast (B i j) (depI B T w i) T hT
      have es := err_step hTr fl.1 fl.2 (hn.b i j hij) (hn.c i j hij) a.2 a.1 eT (by grind)
      have ad : ((depI B T w j + B i j * depI B T w i / T : Int) : Rat) = (depI B T w j : Rat) + ((B i j * depI B T w i / T : Int) : Rat) := Rat.intCast_add _ _
      rw [ad]
      have c1 := mul_bd (a := c i j) (b := depG c w i) (B := 2) (D := p3 w.length) (by have := hn.c i j hij; grind) (hn.c i j hij).2 a.2.1 a.2.2
      have c2 := mul_bd (a := -c i j) (b := depG c w i) (B := 2) (D := p3 w.length) (by have := hn.c i j hij; grind) (by have := hn.c i j hij; grind) a.2.1 a.2.2
      grind
/-- the numbers that the program has for three orders, near to sequences with all that is asked -/
structure Fits (m : Fin 3 → Fin 3 → Nat) (B : Fin 3 → Fin 3 → Int) (T : Int) (K : Nat) : Prop where
  pos : 0 < T
  room : 8 * ((K : Rat) * p3 K) ≤ (T : Rat)
  seq : ∃ (c : Fin 3 → Fin 3 → Sq) (cR : Fin 3 → Fin 3 → Re), Ord m cR ∧ (∀ i j, i ≠ j → cR i j = Re.of (c i j)) ∧ ∀ N, Near B T fun i j => (c i j).f N
/-- the signs tell the lengths -/
theorem signs {m : Fin 3 → Fin 3 → Nat} {B : Fin 3 → Fin 3 → Int} {T : Int} {K : Nat} (F : Fits m B T K) {w : W} (hw : w.length ≤ K) (j : Fin 3) : (ln m (j :: w) = ln m w + 1 → 0 < depI B T w j) ∧ (ln m w = ln m (j :: w) + 1 → depI B T w j < 0) := by
  obtain ⟨c, cR, O, hc, hn⟩ := F.seq
  have hTr : (0 : Rat) < (T : Rat) := by
    have : ((0 : Int) : Rat) < (T : Rat) := Rat.intCast_lt_intCast.mpr F.pos
    exact this
  have k0 := p3_ge w.length
  have n0 : (0 : Rat) ≤ (w.length : Rat) := by grind
  have x0 := Rat.mul_nonneg n0 (show 0 ≤ p3 w.length by grind)
  have k1 := p3_ge K
  have n1 : (0 : Rat) ≤ (K : Rat) := by grind
  have x1 := Rat.mul_nonneg n1 (show 0 ≤ p3 K by grind)
  have rm := F.room
  have hK : 2 * ((K : Rat) * p3 K) ≤ (T : Rat) := by grind
  have le := kp_le w.length (K - w.length)
  rw [show w.length + (K - w.length) = K by omega] at le
  have root := depS_of c cR hc w j
  constructor
  · intro h
    have g := dep_far O h
    rw [root] at g
    obtain ⟨N, hN⟩ := ge_member g
    have q := hN _ rfl
    rw [depS_f] at q
    have er := (err F.pos (hn N) K hK w hw j).1
    have tq := Rat.mul_nonneg (show 0 ≤ (T : Rat) by grind) (show 0 ≤ 4 * depG (fun i j => (c i j).f N) w j - 3 by grind)
    have r : ((0 : Int) : Rat) < (depI B T w j : Rat) := by
      show (0 : Rat) < _
      grind
    exact Rat.intCast_lt_intCast.mp r
  · intro h
    have g := dep_near O h
    rw [root] at g
    have g2 : 1 ≤ Re.of (depS c w j).neg := by
      have e : Re.of (depS c w j).neg = -Re.of (depS c w j) := rfl
      rw [e]
      grind
    obtain ⟨N, hN⟩ := ge_member g2
    have q := hN _ rfl
    have e2 : (depS c w j).neg.f N = -(depS c w j).f N := rfl
    rw [e2, depS_f] at q
    have er := (err F.pos (hn N) K hK w hw j).1
    have tq := Rat.mul_nonneg (show 0 ≤ (T : Rat) by grind) (show 0 ≤ -4 * depG (fun i j => (c i j).f N) w j - 3 by grind)
    have r : (depI B T w j : Rat) < ((0 : Int) : Rat) := by
      show _ < (0 : Rat)
      grind
    exact Rat.intCast_lt_intCast.mp r
end Cox

/-! The program's bends: for each number of bits that is checked, they fit. -/
namespace Cox
open Lean.Grind
def sineF (double : Int) (T : Int) : Nat → Int × Int × Int × Int
  | 0 => (0, T, 0, 0)
  | k + 1 => match sineF double T k with
    | (before, value, sb, sl) => (value, double * value / T - before, sl, value + double * sl / T - sb)
def bendLoop (order : Nat) (T : Int) : Nat → Int → Int
  | 0, bend => bend
  | f + 1, bend => match sineF bend T (order - 1) with
    | (_, value, _, slope) => if value * T / slope ≤ 0 then bend else bendLoop order T f (bend - value * T / slope)
def bendF (order bits : Nat) : Int := if order = 0 then 2 * 2 ^ bits else bendLoop order (2 ^ bits) 40 (2 * 2 ^ bits)
def okB (w : Int) (n bits : Nat) : Bool :=
  let T : Int := 2 ^ bits
  let b := bendF (n + 3) bits
  let lo : Rat := mkRat (b - w) (2 ^ bits)
  let hi : Rat := mkRat (b + w) (2 ^ bits)
  decide (0 ≤ lo) && (decide (hi ≤ 2) && (decide (U lo (n + 2) ≤ 0) && (decide (0 ≤ U hi (n + 2)) && ((List.range (n + 2)).all (fun k => decide (0 ≤ (IU lo hi k).1)) && (List.range (n + 1)).all fun k => decide (1 ≤ (IU lo hi (k + 1)).1 + (IU lo hi k).1)))))
def okBits (bits : Nat) : Bool := (List.range 10).all fun n => okB 2 n bits
theorem nat_pos' {n : Nat} (h : 0 < n) : (0 : Rat) < (n : Rat) := by
  obtain ⟨k, rfl⟩ : ∃ k, n = k + 1 := ⟨n - 1, by omega⟩
  have e : ((k + 1 : Nat) : Rat) = (k : Rat) + 1 := Rat.natCast_add k 1
  have n : (0 : Rat) ≤ (k : Rat) := by grind
  rw [e]
  grind
theorem mk_mul (x : Int) (n : Nat) (hn : 0 < n) : ((n : Nat) : Rat) * mkRat x n = (x : Rat) := by
  rw [Rat.mkRat_eq_div]
  have p := nat_pos' hn
  have : ((n : Nat) : Rat) ≠ 0 := by grind
  grind
/-- an order's bend lies near the members of a sequence with all that is asked -/
theorem bend_ex {bits : Nat} (hb : okBits bits = true) (h2 : bendF 2 bits = 0) {m : Nat} (hm : okOrd m) : ∃ a : Sq, (∀ N, (-2 ≤ (bendF m bits : Rat) - (((2 ^ bits : Nat) : Int) : Rat) * a.f N ∧ (bendF m bits : Rat) - (((2 ^ bits : Nat) : Int) : Rat) * a.f N ≤ 2) ∧ (0 ≤ a.f N ∧ a.f N ≤ 2)) ∧ Num m (Re.of a) := by
  have T0 : 0 < 2 ^ bits := Nat.pow_pos (by decide)
  have cT : (((2 ^ bits : Nat) : Int) : Rat) = ((2 ^ bits : Nat) : Rat) := Rat.intCast_natCast _
  rw [cT]
  rcases hm with rfl | ⟨hm2, hm12⟩
  · refine ⟨cst 2, fun N => ?_, num_none⟩
    have e : bendF 0 bits = 2 * ((2 ^ bits : Nat) : Int) := by
      unfold bendF
      rw [if_pos rfl]
      simp
    have e2 : (bendF 0 bits : Rat) = 2 * ((2 ^ bits : Nat) : Rat) := by
      rw [e, Rat.intCast_mul, Rat.intCast_natCast]
      rfl
    rw [e2]
    show (-2 ≤ 2 * ((2 ^ bits : Nat) : Rat) - ((2 ^ bits : Nat) : Rat) * 2 ∧ 2 * ((2 ^ bits : Nat) : Rat) - ((2 ^ bits : Nat) : Rat) * 2 ≤ 2) ∧ ((0 : Rat) ≤ 2 ∧ (2 : Rat) ≤ 2)
    grind
  · by_cases c : m = 2
    · subst c
      refine ⟨cst 0, fun N => ?_, num_two⟩
      rw [h2]
      show (-2 ≤ ((0 : Int) : Rat) - ((2 ^ bits : Nat) : Rat) * 0 ∧ ((0 : Int) : Rat) - ((2 ^ bits : Nat) : Rat) * 0 ≤ 2) ∧ ((0 : Rat) ≤ 0 ∧ (0 : Rat) ≤ 2)
      have z : ((0 : Int) : Rat) = 0 := rfl
      rw [z]
      grind
    · obtain ⟨n, rfl⟩ : ∃ n, m = n + 3 := ⟨m - 3, by omega⟩
      have o := List.all_eq_true.mp hb n (List.mem_range.mpr (by omega))
      unfold okB at o
      simp only [Bool.and_eq_true, decide_eq_true_eq] at o
      obtain ⟨c1, c2, c3, c4, c5, c6⟩ := o
      have c5 := List.all_eq_true.mp c5
      have c6 := List.all_eq_true.mp c6
      have k1 := mk_mul (bendF (n + 3) bits - 2) (2 ^ bits) T0
      have k2 := mk_mul (bendF (n + 3) bits + 2) (2 ^ bits) T0
      have i1 : ((bendF (n + 3) bits - 2 : Int) : Rat) = (bendF (n + 3) bits : Rat) - 2 := Rat.intCast_sub _ _
      have i2 : ((bendF (n + 3) bits + 2 : Int) : Rat) = (bendF (n + 3) bits : Rat) + 2 := Rat.intCast_add _ _
      rw [i1] at k1
      rw [i2] at k2
      have tp : (0 : Rat) < ((2 ^ bits : Nat) : Rat) := nat_pos' T0
      obtain ⟨a, ha, na⟩ := num_of n (mkRat (bendF (n + 3) bits - 2) (2 ^ bits)) (mkRat (bendF (n + 3) bits + 2) (2 ^ bits)) c1 (le_of_mul tp (by rw [k1, k2]; grind)) c3 c4
        (fun k hk => of_decide_eq_true (c5 k (List.mem_range.mpr hk))) (fun k hk => of_decide_eq_true (c6 k (List.mem_range.mpr hk)))
      refine ⟨a, fun N => ?_, na⟩
      have x := ha N
      have u1 := Rat.mul_nonneg (show 0 ≤ ((2 ^ bits : Nat) : Rat) by grind) (show 0 ≤ a.f N - mkRat (bendF (n + 3) bits - 2) (2 ^ bits) by grind)
      have u2 := Rat.mul_nonneg (show 0 ≤ ((2 ^ bits : Nat) : Rat) by grind) (show 0 ≤ mkRat (bendF (n + 3) bits + 2) (2 ^ bits) - a.f N by grind)
      refine ⟨?_, Rat.le_trans c1 x.1, Rat.le_trans x.2 c2⟩
      grind
theorem fits {bits K : Nat} (hb : okBits bits = true) (h2 : bendF 2 bits = 0) (room : 8 * ((K : Rat) * p3 K) ≤ ((2 ^ bits : Nat) : Rat)) {a b c : Nat} (ha : okOrd a) (hb2 : okOrd b) (hc : okOrd c) :
    Fits (om a b c) (tri 0 (bendF a bits) (bendF b bits) (bendF c bits)) ((2 ^ bits : Nat) : Int) K := by
  have T0 : 0 < 2 ^ bits := Nat.pow_pos (by decide)
  obtain ⟨x, hx, nx⟩ := bend_ex hb h2 ha
  obtain ⟨y, hy, ny⟩ := bend_ex hb h2 hb2
  obtain ⟨z, hz, nz⟩ := bend_ex hb h2 hc
  refine ⟨by omega, by rw [Rat.intCast_natCast]; exact room, tri (cst 0) x y z, tri (-2) (Re.of x) (Re.of y) (Re.of z), ord_of nx ny nz, fun i j hij => ?_, fun N => ⟨fun i j hij => ?_, fun i j hij => ?_⟩⟩
  · unfold tri
    rw [if_neg hij, if_neg hij]
    split
    · rfl
    · split <;> rfl
  · unfold tri
    simp only [if_neg hij]
    split
    · exact (hx N).1
    · split
      · exact (hy N).1
      · exact (hz N).1
  · unfold tri
    simp only [if_neg hij]
    split
    · exact (hx N).2
    · split
      · exact (hy N).2
      · exact (hz N).2
/-- the sizes of the program: 128 letters each -/
theorem size_ok : ∀ s : Fin 8, okBits (256 * (s.1 + 1) + 32) = true ∧ bendF 2 (256 * (s.1 + 1) + 32) = 0 ∧ 8 * (((128 * (s.1 + 1) : Nat) : Rat) * p3 (128 * (s.1 + 1))) ≤ ((2 ^ (256 * (s.1 + 1) + 32) : Nat) : Rat) := by decide +kernel
end Cox

/-! The normal word: letter by letter the least one that shortens. -/
namespace Cox
open Lean.Grind
variable {m : Fin 3 → Fin 3 → Nat} {B : Fin 3 → Fin 3 → Int} {T : Int} {K : Nat}
/-- the least letter with a negative depth -/
def firstNeg (D : Fin 3 → Int) : Option (Fin 3) := if D 0 < 0 then some 0 else if D 1 < 0 then some 1 else if D 2 < 0 then some 2 else none
theorem three (j : Fin 3) : j = 0 ∨ j = 1 ∨ j = 2 := by
  rcases j with ⟨j, hj⟩
  have : j = 0 ∨ j = 1 ∨ j = 2 := by omega
  rcases this with rfl | rfl | rfl
  · exact .inl rfl
  · exact .inr (.inl rfl)
  · exact .inr (.inr rfl)
theorem firstNeg_none {D : Fin 3 → Int} (h : firstNeg D = none) (j : Fin 3) : ¬ D j < 0 := by
  unfold firstNeg at h
  split at h
  · cases h
  · split at h
    · cases h
    · split at h
      · cases h
      · rcases three j with rfl | rfl | rfl <;> assumption
theorem firstNeg_some {D : Fin 3 → Int} {i : Fin 3} (h : firstNeg D = some i) : D i < 0 ∧ ∀ j, D j < 0 → i ≤ j := by
  unfold firstNeg at h
  split at h
  · cases h
    exact ⟨by assumption, fun j _ => Fin.zero_le j⟩
  · split at h
    · cases h
      refine ⟨by assumption, fun j hj => ?_⟩
      rcases three j with rfl | rfl | rfl
      · contradiction
      · decide
      · decide
    · split at h
      · cases h
        refine ⟨by assumption, fun j hj => ?_⟩
        rcases three j with rfl | rfl | rfl
        · contradiction
        · contradiction
        · decide
      · cases h
def greedy (B : Fin 3 → Fin 3 → Int) (T : Int) : Nat → (Fin 3 → Int) → W
  | 0, _ => []
  | f + 1, D => match firstNeg D with
    | none => []
    | some i => i :: greedy B T f (stepI B T i D)
/-- the order of words of one length -/
def lx : W → W → Prop
  | [], _ => True
  | _ :: _, [] => False
  | a :: x, b :: y => a < b ∨ a = b ∧ lx x y
theorem neg_iff (F : Fits m B T K) {w : W} (hw : w.length ≤ K) (j : Fin 3) : depI B T w j < 0 ↔ ln m w = ln m (j :: w) + 1 := by
  obtain ⟨s1, s2⟩ := signs F hw j
  refine ⟨fun h => ?_, s2⟩
  have a := ln_snoc (m := m) w.reverse j
  rw [← cons_reverse, ln_reverse] at a
  rcases a with a | a
  · have := s1 a
    omega
  · exact a
theorem cons_cons (w : W) (i : Fin 3) : Eqv m (i :: i :: w) w := .step (.cut [] w i)
theorem first_ex {w : W} (h : ln m w ≠ 0) : ∃ j, ln m w = ln m (j :: w) + 1 := by
  obtain ⟨t, ht⟩ := last_ex (m := m) (w := w.reverse) (by rw [ln_reverse]; exact h)
  rw [← cons_reverse, ln_reverse] at ht
  exact ⟨t, ht⟩
/-- a first letter of a shortest word shortens -/
theorem first_red {w v : W} {i : Fin 3} (h : Eqv m w (i :: v)) (r : Red m (i :: v)) : ln m w = ln m (i :: w) + 1 ∧ Eqv m (i :: w) v ∧ Red m v := by
  have e : Eqv m (i :: w) v := (h.left [i]).trans (cons_cons v i)
  have rv : Red m v := (Red.part (u := [i]) (v := v) r).2
  refine ⟨?_, e, rv⟩
  rw [ln_eqv h, ln_eqv e, r, rv]
  rfl
theorem greedy_ok (F : Fits m B T K) : ∀ (f : Nat) (u : W), u.length + f ≤ K → ln m u ≤ f → Eqv m u (greedy B T f (depI B T u)) ∧ (greedy B T f (depI B T u)).length = ln m u ∧ ∀ v, Red m v → Eqv m u v → lx (greedy B T f (depI B T u)) v
  | 0, u, _, h => by
    have e : ln m u = 0 := by omega
    exact ⟨ln_zero e, e.symm, fun _ _ _ => trivial⟩
  | f + 1, u, hK, h => by
    unfold greedy
    cases c : firstNeg (depI B T u) with
    | none =>
      have e : ln m u = 0 := Classical.byContradiction fun z => by
        obtain ⟨j, hj⟩ := first_ex z
        exact firstNeg_none c j ((neg_iff F (by omega) j).mpr hj)
      exact ⟨ln_zero e, e.symm, fun _ _ _ => trivial⟩
    | some i =>
      obtain ⟨h1, h2⟩ := firstNeg_some c
      have d := (neg_iff F (by omega) i).mp h1
      have ih := greedy_ok F f (i :: u) (by rw [List.length_cons]; omega) (by omega)
      have eD : depI B T (i :: u) = stepI B T i (depI B T u) := rfl
      rw [eD] at ih
      obtain ⟨i1, i2, i3⟩ := ih
      refine ⟨(cons_cons u i).symm.trans (i1.left [i]), by rw [List.length_cons, i2]; omega, fun v rv hv => ?_⟩
      cases v with
      | nil =>
        have := ln_eqv hv
        rw [rv] at this
        simp at this
        omega
      | cons j v =>
        obtain ⟨a1, a2, a3⟩ := first_red hv rv
        have le := h2 j ((neg_iff F (by omega) j).mpr a1)
        by_cases e : i = j
        · subst e
          exact .inr ⟨rfl, i3 v a3 a2⟩
        · exact .inl (by
            have n : i.1 ≠ j.1 := fun z => e (Fin.ext z)
            have l : i.1 ≤ j.1 := le
            show i.1 < j.1
            omega)
end Cox
#print axioms Cox.greedy_ok

/-! What a search by turns finds. -/
namespace Cox
def NoSq (v : W) : Prop := ∀ (x y : W) (s : Fin 3), v ≠ x ++ ([s, s] ++ y)
theorem closed_tn {m : Fin 3 → Fin 3 → Nat} {S : W → Prop} (hc : ∀ u v, S u → Turn1 m u v → S v) {u v : W} (h : Tn m u v) (hu : S u) : S v := by
  induction h with
  | refl u => exact hu
  | more a _ ih => exact ih (hc _ _ hu a)
/-- a set of words that is closed under turns and holds no two equal letters next to each other is the set of all shortest words of a tile -/
theorem ring_all {a b c : Nat} (ha : okOrd a) (hb : okOrd b) (hc : okOrd c) {S : W → Prop} {w : W} (h0 : S w) (ht : ∀ u v, S u → Turn1 (om a b c) u v → S v) (he : ∀ u, S u → Eqv (om a b c) w u) (hn : ∀ u, S u → NoSq u) :
    Red (om a b c) w ∧ ∀ v, S v ↔ (Eqv (om a b c) w v ∧ Red (om a b c) v) := by
  have red : ∀ u, S u → Red (om a b c) u := fun u hu => Classical.byContradiction fun z => by
    obtain ⟨x, y, s, t⟩ := word_cut ha hb hc z
    exact hn _ (closed_tn ht t hu) x y s rfl
  exact ⟨red w h0, fun v => ⟨fun hv => ⟨he v hv, red v hv⟩, fun hv => closed_tn ht (word_turns ha hb hc (red w h0) hv.2 hv.1) h0⟩⟩
/-- two equal letters cut out -/
theorem cut_eqv {m : Fin 3 → Fin 3 → Nat} (x y : W) (s : Fin 3) : Eqv m (x ++ ([s, s] ++ y)) (x ++ y) := .step (.cut x y s)
/-- the order of words of one length is total and has at most one least word -/
theorem lx_antisymm : ∀ {u v : W}, u.length = v.length → lx u v → lx v u → u = v
  | [], [], _, _, _ => rfl
  | a :: x, b :: y, h, h1, h2 => by
    have hl : x.length = y.length := by simpa using h
    rcases h1 with h1 | ⟨e1, h1⟩
    · rcases h2 with h2 | ⟨e2, h2⟩
      · have a1 : a.1 < b.1 := h1
        have a2 : b.1 < a.1 := h2
        omega
      · have a1 : a.1 < b.1 := h1
        rw [e2] at a1
        omega
    · rcases h2 with h2 | ⟨e2, h2⟩
      · have a2 : b.1 < a.1 := h2
        rw [e1] at a2
        omega
      · rw [e1, lx_antisymm hl h1 h2]
/-- the ends of a tile are the last letters of its shortest words -/
theorem ends_iff {m : Fin 3 → Fin 3 → Nat} (w : W) (s : Fin 3) : ln m w = ln m (w ++ [s]) + 1 ↔ ∃ v, Eqv m w (v ++ [s]) ∧ Red m (v ++ [s]) := by
  constructor
  · intro h
    obtain ⟨v, hv, rv⟩ := red_ex (m := m) (w ++ [s])
    have e : Eqv m w (v ++ [s]) := (snoc_snoc w s).symm.trans (hv.right [s])
    refine ⟨v, e, ?_⟩
    unfold Red
    rw [← ln_eqv e, h, ln_eqv hv, rv, List.length_append]
    rfl
  · rintro ⟨v, e, r⟩
    have e2 : Eqv m (w ++ [s]) v := (e.right [s]).trans (snoc_snoc v s)
    rw [ln_eqv e, ln_eqv e2, r, r.part.1, List.length_append]
    rfl
/-- the program's ends, by depths of the word backwards -/
theorem ends_neg {m : Fin 3 → Fin 3 → Nat} {B : Fin 3 → Fin 3 → Int} {T : Int} {K : Nat} (F : Fits m B T K) {w : W} (hw : w.length ≤ K) (s : Fin 3) : depI B T w.reverse s < 0 ↔ ln m w = ln m (w ++ [s]) + 1 := by
  rw [neg_iff F (by rw [List.length_reverse]; exact hw), cons_reverse, List.reverse_reverse, ln_reverse]
end Cox

/-! Mirrors: how often a word's walls are a given one, counted by parity; what follows for lengths and sides. -/
namespace Cox
open Classical
variable {m : Fin 3 → Fin 3 → Nat}
/-- a wall taken back along a word -/
def cj (u t : W) : W := u.reverse ++ t ++ u
theorem cj_eqv {u t t' : W} (h : Eqv m t t') : Eqv m (cj u t) (cj u t') := h.app _ _
theorem cj_app (u v t : W) : cj (u ++ v) t = cj v (cj u t) := by simp [cj]
theorem cj_word {u v t : W} (h : Eqv m u v) : Eqv m (cj u t) (cj v t) := (h.rev.right t).mul h
theorem cj_iff {u t x : W} : Eqv m (cj u t) x ↔ Eqv m t (u ++ x ++ u.reverse) := by
  constructor
  · intro h
    have h1 := h.app u u.reverse
    have e : Eqv m (u ++ cj u t ++ u.reverse) t := by
      have a := (Eqv.inv_right (m := m) u).right (t ++ (u ++ u.reverse))
      have b := (Eqv.inv_right (m := m) u).left t
      rw [List.append_nil] at b
      have c := a.trans b
      simpa [cj] using c
    exact e.symm.trans h1
  · intro h
    have h1 : Eqv m (cj u t) (cj u (u ++ x ++ u.reverse)) := cj_eqv h
    have e : Eqv m (cj u (u ++ x ++ u.reverse)) x := by
      have a := (Eqv.inv_left (m := m) u).right (x ++ (u.reverse ++ u))
      have b := (Eqv.inv_left (m := m) u).left x
      rw [List.append_nil] at b
      have c := a.trans b
      simpa [cj] using c
    exact h1.trans e
/-- whether an odd number of the walls that a word crosses is a given one -/
noncomputable def od (m : Fin 3 → Fin 3 → Nat) : W → W → Bool
  | [], _ => false
  | s :: w, t => xor (decide (Eqv m t [s])) (od m w (cj [s] t))
theorem dec_congr {p q : Prop} [Decidable p] [Decidable q] (h : p ↔ q) : decide p = decide q := by
  by_cases hp : p
  · rw [decide_eq_true hp, decide_eq_true (h.1 hp)]
  · rw [decide_eq_false hp, decide_eq_false (fun z => hp (h.2 z))]
theorem od_congr : ∀ (w : W) {t t' : W}, Eqv m t t' → od m w t = od m w t'
  | [], _, _, _ => rfl
  | s :: w, t, t', h => by
    rw [od, od, od_congr w (cj_eqv h), dec_congr (p := Eqv m t [s]) (q := Eqv m t' [s]) ⟨fun z => h.symm.trans z, fun z => h.trans z⟩]
theorem od_append : ∀ (u v t : W), od m (u ++ v) t = xor (od m u t) (od m v (cj u t))
  | [], v, t => by simp [od, cj]
  | s :: u, v, t => by
    have e : cj (s :: u) t = cj u (cj [s] t) := cj_app [s] u t
    rw [List.cons_append, od, od, od_append u v, e, Bool.xor_assoc]
theorem cj_cancel (s : Fin 3) (t : W) : Eqv m (cj [s] (cj [s] t)) t := by
  have h := cj_word (m := m) (t := t) (Eqv.cancel s)
  have e : cj [s, s] t = cj [s] (cj [s] t) := cj_app [s] [s] t
  rw [← e]
  simpa [cj] using h
theorem od_cut (s : Fin 3) (w t : W) : od m (s :: s :: w) t = od m w t := by
  have h1 : decide (Eqv m (cj [s] t) [s]) = decide (Eqv m t [s]) := dec_congr (by
    rw [cj_iff]
    have e : Eqv m ([s] ++ [s] ++ [s].reverse) [s] := (Eqv.cancel s).right [s]
    exact ⟨fun h => h.trans e, fun h => h.trans e.symm⟩)
  rw [od, od, h1, od_congr w (cj_cancel s t)]
  cases decide (Eqv m t [s]) <;> cases od m w t <;> rfl
theorem od_inv : ∀ (u t : W), od m (u ++ u.reverse) t = false
  | [], _ => rfl
  | s :: u, t => by
    have e : s :: u ++ (s :: u).reverse = [s] ++ ((u ++ u.reverse) ++ [s]) := by simp
    rw [e, od_append, od_append, od_inv u]
    have h1 : od m [s] (cj (u ++ u.reverse) (cj [s] t)) = od m [s] (cj [s] t) := by
      refine od_congr _ ?_
      have := cj_word (m := m) (t := cj [s] t) (Eqv.inv_right u)
      simpa [cj] using this
    rw [h1]
    have h2 := od_cut (m := m) s [] t
    have h3 : od m ([s] ++ [s]) t = false := h2
    rw [od_append] at h3
    simpa using h3
/-- parity of a number of marks -/
def xs (f : Nat → Bool) : Nat → Bool
  | 0 => false
  | n + 1 => xor (f 0) (xs (fun k => f (k + 1)) n)
theorem xs_congr : ∀ (n : Nat) {f g : Nat → Bool}, (∀ k, f k = g k) → xs f n = xs g n
  | 0, _, _, _ => rfl
  | n + 1, f, g, h => by rw [xs, xs, h 0, xs_congr n (fun k => h (k + 1))]
theorem xs_add : ∀ (n k : Nat) (f : Nat → Bool), xs f (n + k) = xor (xs f n) (xs (fun i => f (n + i)) k)
  | 0, k, f => by simp [xs]
  | n + 1, k, f => by
    rw [show n + 1 + k = (n + k) + 1 by omega, xs, xs, xs_add n k, Bool.xor_assoc]
    rw [xs_congr k (f := fun i => f (n + i + 1)) (g := fun i => f (n + 1 + i)) (fun i => by rw [show n + i + 1 = n + 1 + i by omega])]
theorem od_alt : ∀ (n : Nat) (i j : Fin 3) (t : W), od m (alt i j n) t = xs (fun k => decide (Eqv m t (alt i j (2 * k + 1)))) n
  | 0, _, _, _ => rfl
  | n + 1, i, j, t => by
    rw [alt, od, xs, od_alt n j i]
    congr 1
    refine xs_congr n (fun k => dec_congr ?_)
    rw [cj_iff]
    have e : [i] ++ alt j i (2 * k + 1) ++ [i].reverse = alt i j (2 * (k + 1) + 1) := by
      have h := alt_snoc i j (2 * k + 2)
      have h2 : nth i j (2 * k + 2) = i := by rw [nth, if_pos (by omega)]
      rw [h2] at h
      rw [show 2 * (k + 1) + 1 = 2 * k + 2 + 1 by omega, h]
      rfl
    rw [e]
theorem alt_add (i j : Fin 3) (n : Nat) : ∀ k : Nat, alt i j (n + k) = alt i j n ++ alt (nth i j n) (nth i j (n + 1)) k := by
  induction n generalizing i j with
  | zero => intro k; simp [alt, nth]
  | succ n ih =>
    intro k
    rw [show n + 1 + k = (n + k) + 1 by omega, alt, ih, alt, nth_succ i j n, nth_succ i j (n + 1)]
    rfl
theorem alt_twice (i j : Fin 3) (n : Nat) : alt i j (n + n) = alt i j n ++ (alt j i n).reverse := by
  rw [alt_add, alt_reverse]
  by_cases h : n % 2 = 0
  · rw [if_pos h, nth, nth, if_pos h, if_neg (by omega)]
  · rw [if_neg h, nth, nth, if_neg h, if_pos (by omega)]
theorem od_turn {i j : Fin 3} {n : Nat} (h : Eqv m (alt i j n) (alt j i n)) (t : W) : od m (alt i j n) t = od m (alt j i n) t := by
  have e0 : Eqv m (alt i j (n + n)) [] := by
    rw [alt_twice]
    exact (h.right _).trans (Eqv.inv_right _)
  have per : ∀ k, Eqv m (alt i j (n + n + k)) (alt i j k) := fun k => by
    rw [alt_add]
    have z : nth i j (n + n) = i := by rw [nth, if_pos (by omega)]
    have z2 : nth i j (n + n + 1) = j := by rw [nth, if_neg (by omega)]
    rw [z, z2]
    exact e0.right _
  have h0 : od m (alt i j (n + n)) t = false := by
    rw [od_alt, xs_add]
    rw [xs_congr n (f := fun k => decide (Eqv m t (alt i j (2 * (n + k) + 1)))) (g := fun k => decide (Eqv m t (alt i j (2 * k + 1)))) (fun k => dec_congr (by
      have p := per (2 * k + 1)
      rw [show n + n + (2 * k + 1) = 2 * (n + k) + 1 by omega] at p
      exact ⟨fun z => z.trans p, fun z => z.trans p.symm⟩))]
    simp
  rw [alt_twice, od_append, od_congr _ (cj_word h)] at h0
  have h1 := od_inv (m := m) (alt j i n) t
  rw [od_append] at h1
  revert h0 h1
  cases od m (alt i j n) t <;> cases od m (alt j i n) t <;> cases od m (alt j i n).reverse (cj (alt j i n) t) <;> simp
theorem od_step {u v : W} (h : Step m u v) (t : W) : od m u t = od m v t := by
  cases h with
  | cut u v i => rw [od_append, od_append, od_cut]
  | turn u v i j h h0 =>
    have e : Eqv m (alt i j (m i j)) (alt j i (m i j)) := by
      have := Eqv.step (Step.turn (m := m) [] [] i j h h0)
      simpa using this
    rw [od_append, od_append, od_append, od_append, od_turn e, od_congr v (cj_word e)]
/-- the parity belongs to the tile -/
theorem od_eqv {u v : W} (h : Eqv m u v) (t : W) : od m u t = od m v t := by
  induction h with
  | refl u => rfl
  | step h => exact od_step h t
  | symm _ ih => exact ih.symm
  | trans _ _ a b => exact a.trans b
/-- a wall that is crossed an odd number of times stands at some letter -/
theorem od_split : ∀ (w t : W), od m w t = true → ∃ (x y : W) (s : Fin 3), w = x ++ s :: y ∧ Eqv m t (x ++ [s] ++ x.reverse)
  | [], t, h => by cases h
  | s :: w, t, h => by
    rw [od] at h
    by_cases c : Eqv m t [s]
    · exact ⟨[], w, s, rfl, by simpa using c⟩
    · rw [decide_eq_false c, Bool.false_xor] at h
      obtain ⟨x, y, r, rfl, e⟩ := od_split w _ h
      refine ⟨s :: x, y, r, rfl, ?_⟩
      rw [cj_iff] at e
      simpa using e
/-- a wall before a word whose letter it stands at cuts the letter out -/
theorem cut_out {t x y : W} {s : Fin 3} (e : Eqv m t (x ++ [s] ++ x.reverse)) : Eqv m (t ++ (x ++ s :: y)) (x ++ y) := by
  have h1 := e.right (x ++ s :: y)
  have h2 := ((Eqv.inv_left (m := m) x).app (x ++ [s]) (s :: y))
  have h3 := (Eqv.cancel (m := m) s).app x y
  have h4 : Eqv m (x ++ [s] ++ (x.reverse ++ x) ++ s :: y) (x ++ y) := h2.trans (by simpa using h3)
  exact h1.trans (by simpa using h4)
/-- a wall -/
def Wl (m : Fin 3 → Fin 3 → Nat) (t : W) : Prop := ∃ (u : W) (s : Fin 3), Eqv m t (u ++ [s] ++ u.reverse)
theorem Wl.sq {t : W} (h : Wl m t) : Eqv m (t ++ t) [] := by
  obtain ⟨u, s, e⟩ := h
  have h1 := cut_out (y := u.reverse) e
  have h2 : Eqv m (t ++ t) (t ++ (u ++ s :: u.reverse)) := by
    have := e.left t
    simpa using this
  exact h2.trans (h1.trans (Eqv.inv_right u))
theorem Wl.rev {t : W} (h : Wl m t) : Eqv m t.reverse t := by
  obtain ⟨u, s, e⟩ := h
  have h1 := e.rev
  have h2 : (u ++ [s] ++ u.reverse).reverse = u ++ [s] ++ u.reverse := by simp
  rw [h2] at h1
  exact h1.trans e.symm
theorem Wl.od {t : W} (h : Wl m t) : od m t t = true := by
  obtain ⟨u, s, e⟩ := h
  rw [od_eqv e, List.append_assoc, od_append, od_append]
  have k : Eqv m (cj u t) [s] := cj_iff.2 e
  have h1 : Cox.od m [s] (cj u t) = true := by
    show xor (decide (Eqv m (cj u t) [s])) false = true
    rw [decide_eq_true k]
    rfl
  have h2 : Cox.od m u.reverse (cj [s] (cj u t)) = Cox.od m u.reverse (cj u t) := od_congr _ ((cj_iff.2 (by
    have := (Eqv.cancel (m := m) s).right [s]
    exact k.trans this.symm)).trans k.symm)
  rw [h1, h2]
  have h3 := od_inv (m := m) u t
  rw [od_append] at h3
  revert h3
  cases Cox.od m u t <;> cases Cox.od m u.reverse (cj u t) <;> simp
theorem od_shorter {w t : W} (h : od m w t = true) : ln m (t ++ w) < ln m w := by
  obtain ⟨r, hr, rr⟩ := red_ex (m := m) w
  rw [od_eqv hr] at h
  obtain ⟨x, y, s, rfl, e⟩ := od_split r t h
  rw [ln_eqv (hr.left t), ln_eqv (cut_out e), ln_eqv hr, rr]
  have := ln_self (m := m) (x ++ y)
  simp only [List.length_append, List.length_cons] at *
  omega
/-- a wall parts a tile from the first one exactly if it is crossed an odd number of times -/
theorem od_iff {t : W} (h : Wl m t) (w : W) : od m w t = true ↔ ln m (t ++ w) < ln m w := by
  refine ⟨od_shorter, fun l => ?_⟩
  cases c : od m w t with
  | true => rfl
  | false =>
    exfalso
    have h1 : od m (t ++ w) t = true := by
      rw [od_append, h.od]
      have k : Eqv m (cj t t) t := (cj_iff.2 (by
        have a := (Eqv.inv_right (m := m) t).left t
        rw [List.append_nil] at a
        simpa using a.symm))
      rw [od_congr w k, c]
      rfl
    have h2 := od_shorter h1
    have e : Eqv m (t ++ (t ++ w)) w := by
      have := h.sq.right w
      simpa using this
    rw [ln_eqv e] at h2
    omega
/-- the walls on the way between two tiles -/
theorem od_between {t : W} (u v : W) : od m (u.reverse ++ v) (cj u t) = xor (od m u t) (od m v t) := by
  rw [od_append]
  have h1 := od_inv (m := m) u t
  rw [od_append] at h1
  have k : Eqv m (cj u.reverse (cj u t)) t := by
    have := cj_word (m := m) (t := t) (Eqv.inv_right u)
    rw [cj_app] at this
    simpa [cj] using this
  rw [od_congr v k]
  revert h1
  cases od m u t <;> cases od m u.reverse (cj u t) <;> simp
/-- the word of a wall: a half, a letter, the half backwards -/
theorem wall_mid {t r : W} (h : Wl m t) (e : Eqv m t r) (rr : Red m r) : ∃ (x y : W) (s : Fin 3), r = x ++ s :: y ∧ x.length = y.length ∧ Eqv m x.reverse y := by
  have h1 := h.od
  rw [od_eqv e] at h1
  obtain ⟨x, y, s, rfl, k⟩ := od_split r t h1
  have k2 : Eqv m (x ++ y) [] := ((e.symm.left t).trans h.sq |> fun z => (cut_out k).symm.trans z)
  have k3 : Eqv m x.reverse y := by
    have a := k2.left x.reverse
    have b := (Eqv.inv_left (m := m) x).right y
    rw [List.append_nil] at a
    rw [List.append_assoc] at b
    exact a.symm.trans b
  refine ⟨x, y, s, rfl, ?_, k3⟩
  have r1 := rr.part
  have r2 : Red m y := (Red.part (u := [s]) (v := y) r1.2).2
  have := ln_eqv k3
  rw [ln_reverse, r1.1, r2] at this
  exact this
theorem wall_of_mid {r x y : W} {s : Fin 3} (e : r = x ++ s :: y) (k : Eqv m x.reverse y) : Wl m r := ⟨x, s, by
  have := (k.symm.left (x ++ [s]))
  rw [e]
  simpa using this⟩
end Cox

/-! A mirror, the tile beyond its side, a third tile: what changes sides. -/
namespace Cox
variable {m : Fin 3 → Fin 3 → Nat}
theorem Eqv.left_inv (x y : W) : Eqv m (x.reverse ++ (x ++ y)) y := by
  have h := (Eqv.inv_left (m := m) x).right y
  simpa using h
structure Mir (m : Fin 3 → Fin 3 → Nat) (t h : W) (l : Fin 3) (wl be im : W) : Prop where
  w : Wl m wl
  a2 : Eqv m (be ++ [l] ++ be.reverse) (t ++ [l] ++ t.reverse)
  a3 : Eqv m (wl ++ t) (t ++ [l])
  a4 : Eqv m (wl ++ be) t
  a5 : Eqv m (wl ++ im) h
  a6 : ∀ x, ln m (wl ++ x) ≠ ln m x
  a7 : ln m (h.reverse ++ be) = ln m (h.reverse ++ t) + 1 ∨ ln m (h.reverse ++ t) = ln m (h.reverse ++ be) + 1
  a8 : ln m (h.reverse ++ t) < ln m (h.reverse ++ be) ↔ od m h wl = od m t wl
  a9 : Eqv m (im.reverse ++ be) (h.reverse ++ t)
  a10 : Eqv m (im.reverse ++ t) (h.reverse ++ be)
theorem mir {t h : W} {l : Fin 3} {wl be im : W} (hw : Eqv m wl (t ++ [l] ++ t.reverse)) (hb : Eqv m be (t ++ [l])) (hi : Eqv m im (wl ++ h)) : Mir m t h l wl be im := by
  have w : Wl m wl := ⟨t, l, hw⟩
  have ll : Eqv m [l, l] [] := .cancel l
  have sq : ∀ x, Eqv m (wl ++ (wl ++ x)) x := fun x => by
    have := w.sq.right x
    simpa using this
  have a3 : Eqv m (wl ++ t) (t ++ [l]) := by
    have h1 := hw.right t
    have h2 := (Eqv.inv_left (m := m) t).left (t ++ [l])
    rw [List.append_nil] at h2
    exact h1.trans (by simpa using h2)
  have a4 : Eqv m (wl ++ be) t := ((hb.trans a3.symm).left wl).trans (sq t)
  have a5 : Eqv m (wl ++ im) h := (hi.left wl).trans (sq h)
  have a2 : Eqv m (be ++ [l] ++ be.reverse) (t ++ [l] ++ t.reverse) := by
    have h1 : Eqv m (be ++ [l] ++ be.reverse) (t ++ [l] ++ [l] ++ (t ++ [l]).reverse) := (hb.right [l]).mul hb.rev
    have h2 := ll.app t ([l] ++ t.reverse)
    exact h1.trans (by simpa using h2)
  have a6 : ∀ x, ln m (wl ++ x) ≠ ln m x := fun x e => by
    have p1 := ln_parity (m := m) (wl ++ x)
    have p2 := ln_parity (m := m) x
    have p3 := hw.parity
    simp only [List.length_append, List.length_reverse, List.length_singleton] at p1 p3
    omega
  have e7 : ln m (h.reverse ++ be) = ln m (h.reverse ++ t ++ [l]) := ln_eqv (by
    have := hb.left h.reverse
    simpa using this)
  have a7 := ln_snoc (m := m) (h.reverse ++ t) l
  rw [← e7] at a7
  have k : Wl m (cj h wl) := ⟨h.reverse ++ t, l, by
    have := cj_eqv (u := h) hw
    simpa [cj] using this⟩
  have ky : Eqv m (cj h wl ++ (h.reverse ++ t)) (h.reverse ++ t ++ [l]) := by
    have h1 := (Eqv.inv_right (m := m) h).app (h.reverse ++ wl) t
    have h2 := a3.left h.reverse
    have h3 : Eqv m (cj h wl ++ (h.reverse ++ t)) (h.reverse ++ (wl ++ t)) := by simpa [cj] using h1
    exact h3.trans (by simpa using h2)
  have a8 : ln m (h.reverse ++ t) < ln m (h.reverse ++ be) ↔ od m h wl = od m t wl := by
    have h1 := od_iff k (h.reverse ++ t)
    rw [od_between, ln_eqv ky, ← e7] at h1
    constructor
    · intro c
      cases c1 : od m h wl <;> cases c2 : od m t wl
      · rfl
      · rw [c1, c2] at h1; have := h1.1 rfl; omega
      · rw [c1, c2] at h1; have := h1.1 rfl; omega
      · rfl
    · intro c
      rw [c] at h1
      have h2 : ¬ ln m (h.reverse ++ be) < ln m (h.reverse ++ t) := fun z => by
        have := h1.2 z
        rw [Bool.xor_self] at this
        cases this
      omega
  have a9 : Eqv m (im.reverse ++ be) (h.reverse ++ t) := by
    have h1 : Eqv m (im.reverse ++ be) ((wl ++ h).reverse ++ (wl ++ t)) := hi.rev.mul (hb.trans a3.symm)
    have h2 := (Eqv.inv_left (m := m) wl).app h.reverse t
    exact h1.trans (by simpa using h2)
  have a10 : Eqv m (im.reverse ++ t) (h.reverse ++ be) := by
    have h1 : Eqv m (im.reverse ++ t) ((wl ++ h).reverse ++ (wl ++ be)) := hi.rev.mul a4.symm
    have h2 := (Eqv.inv_left (m := m) wl).app h.reverse be
    exact h1.trans (by simpa using h2)
  exact ⟨w, a2, a3, a4, a5, a6, a7, a8, a9, a10⟩
end Cox

/-! The walls of a word as a list: how many are met an odd number of times. -/
namespace Cox
variable {m : Fin 3 → Fin 3 → Nat} {nf : W → W}
structure NF (m : Fin 3 → Fin 3 → Nat) (nf : W → W) : Prop where
  e : ∀ u : W, u.length ≤ 500 → Eqv m u (nf u)
  l : ∀ u : W, u.length ≤ 500 → (nf u).length ≤ u.length
  c : ∀ u v : W, u.length ≤ 500 → v.length ≤ 500 → Eqv m u v → nf u = nf v
def mirAt (nf : W → W) (w : W) (k : Nat) : W := nf (w.take k ++ (w.drop k).take 1 ++ (w.take k).reverse)
def mirs (nf : W → W) (w : W) : List W := (List.range w.length).map (mirAt nf w)
theorem mirs_snoc (w : W) (s : Fin 3) : mirs nf (w ++ [s]) = mirs nf w ++ [nf (w ++ [s] ++ w.reverse)] := by
  unfold mirs
  rw [List.length_append, List.length_singleton, List.range_succ, List.map_append]
  congr 1
  · apply List.map_congr_left
    intro k hk
    have hk := List.mem_range.mp hk
    unfold mirAt
    rw [List.take_append_of_le_length (by omega), List.drop_append_of_le_length (by omega), List.take_append_of_le_length (by rw [List.length_drop]; omega)]
  · simp [mirAt]
theorem mirs_len (w : W) : (mirs nf w).length = w.length := by simp [mirs]
theorem snoc_ind {p : W → Prop} (h0 : p []) (hs : ∀ w s, p w → p (w ++ [s])) : ∀ w, p w := fun w => by
  have : ∀ v : W, p v.reverse := fun v => by
    induction v with
    | nil => exact h0
    | cons s v ih => rw [List.reverse_cons]; exact hs _ _ ih
  have h := this w.reverse
  rwa [List.reverse_reverse] at h
theorem mirs_wall (hN : NF m nf) (w : W) (hw : w.length ≤ 60) : ∀ t ∈ mirs nf w, Wl m t ∧ t.length % 2 = 1 := by
  intro t ht
  unfold mirs at ht
  obtain ⟨k, hk, rfl⟩ := List.mem_map.mp ht
  have hk := List.mem_range.mp hk
  unfold mirAt
  have e1 : (w.drop k).take 1 = [w[k]'hk] := by
    rw [List.drop_eq_getElem_cons hk]
    rfl
  rw [e1]
  have l1 : (w.take k ++ [w[k]'hk] ++ (w.take k).reverse).length = 2 * k + 1 := by
    simp only [List.length_append, List.length_take, List.length_reverse, List.length_singleton]
    omega
  generalize w[k]'hk = s at l1 ⊢
  have e := hN.e (w.take k ++ [s] ++ (w.take k).reverse) (by omega)
  exact ⟨⟨w.take k, s, e.symm⟩, by rw [← e.parity, l1]; omega⟩
theorem mirs_nf (hN : NF m nf) (w : W) (hw : w.length ≤ 60) : ∀ t ∈ mirs nf w, nf t = t ∧ t.length ≤ 130 := by
  intro t ht
  unfold mirs at ht
  obtain ⟨k, hk, rfl⟩ := List.mem_map.mp ht
  unfold mirAt
  have l1 : (w.take k ++ (w.drop k).take 1 ++ (w.take k).reverse).length ≤ 121 := by
    simp only [List.length_append, List.length_take, List.length_reverse, List.length_drop]
    omega
  generalize w.take k ++ (w.drop k).take 1 ++ (w.take k).reverse = X at l1 ⊢
  have l2 := hN.l X (by omega)
  have l3 := (hN.e X (by omega)).symm
  exact ⟨hN.c (nf X) X (by omega) (by omega) l3, by omega⟩
open Classical in
theorem od_one (s : Fin 3) (x : W) : od m [s] x = true ↔ Eqv m x [s] := by
  show xor (decide (Eqv m x [s])) false = true ↔ _
  rw [Bool.xor_false, decide_eq_true_iff]
theorem od_count (hN : NF m nf) (w : W) : w.length ≤ 60 → ∀ t, nf t = t → t.length ≤ 500 → od m w t = decide ((mirs nf w).count t % 2 = 1) := by
  refine snoc_ind (p := fun w => w.length ≤ 60 → ∀ t, nf t = t → t.length ≤ 500 → od m w t = decide ((mirs nf w).count t % 2 = 1)) ?_ ?_ w
  · intro _ t _ _
    rfl
  · intro w s ih hl t ht ht2
    rw [List.length_append, List.length_singleton] at hl
    have l1 : (w ++ [s] ++ w.reverse).length ≤ 500 := by simp; omega
    rw [od_append, ih (by omega) t ht ht2, mirs_snoc, List.count_append, List.count_singleton]
    have e : od m [s] (cj w t) = decide (nf (w ++ [s] ++ w.reverse) = t) := by
      refine Bool.eq_iff_iff.2 ((od_one s (cj w t)).trans (Iff.trans (cj_iff.trans ⟨fun h => ?_, fun h => ?_⟩) decide_eq_true_iff.symm))
      · rw [← ht]
        exact hN.c _ _ l1 ht2 h.symm
      · rw [← h]
        exact (hN.e _ l1).symm
    rw [e]
    by_cases c : nf (w ++ [s] ++ w.reverse) = t
    · rw [decide_eq_true c, if_pos (by simpa using c)]
      by_cases c2 : List.count t (mirs nf w) % 2 = 1
      · rw [decide_eq_true c2, decide_eq_false (by omega)]; rfl
      · rw [decide_eq_false c2, decide_eq_true (by omega)]; rfl
    · rw [decide_eq_false c, if_neg (by simpa using c), Nat.add_zero, Bool.xor_false]
theorem count_nodup {α : Type} [BEq α] [LawfulBEq α] : ∀ {l : List α}, l.Nodup → ∀ {x : α}, x ∈ l → l.count x = 1
  | y :: l, h, x, hx => by
    rw [List.nodup_cons] at h
    rw [List.count_cons]
    rcases Classical.em (y = x) with c | c
    · subst c
      rw [List.count_eq_zero_of_not_mem h.1]
      simp
    · have hx2 : x ∈ l := by
        rcases List.mem_cons.mp hx with e | e
        · exact absurd e.symm c
        · exact e
      rw [count_nodup h.2 hx2]
      simp [c]
theorem mirs_nodup (hN : NF m nf) (w : W) : w.length ≤ 60 → Red m w → (mirs nf w).Nodup := by
  refine snoc_ind (p := fun w => w.length ≤ 60 → Red m w → (mirs nf w).Nodup) ?_ ?_ w
  · intro _ _
    exact List.nodup_nil
  · intro w s ih hl r
    rw [List.length_append, List.length_singleton] at hl
    have r1 := r.part.1
    have ih := ih (by omega) r1
    rw [mirs_snoc]
    have l1 : (w ++ [s] ++ w.reverse).length ≤ 500 := by simp; omega
    have l2 := hN.l _ l1
    rw [List.nodup_append]
    refine ⟨ih, by simp, ?_⟩
    rintro x hx y hy rfl
    rw [List.mem_singleton] at hy
    have h1 := od_count hN w (by omega) x (by rw [hy]; exact hN.c _ _ (by omega) l1 (hN.e _ l1).symm) (by rw [hy]; omega)
    rw [count_nodup ih hx] at h1
    have h2 := od_shorter (m := m) (show od m w x = true by rw [h1]; rfl)
    have e : Eqv m (x ++ w) (w ++ [s]) := by
      have a := (hN.e _ l1).symm.right w
      rw [← hy] at a
      have b := (Eqv.inv_left (m := m) w).left (w ++ [s])
      rw [List.append_nil] at b
      exact a.trans (by simpa using b)
    rw [ln_eqv e, r, r1, List.length_append] at h2
    simp at h2
    omega
theorem sub_len {α : Type} [BEq α] [LawfulBEq α] : ∀ {l l' : List α}, l.Nodup → (∀ x ∈ l, x ∈ l') → l.length ≤ l'.length
  | [], _, _, _ => Nat.zero_le _
  | x :: l, l', h, k => by
    rw [List.nodup_cons] at h
    have hx := k x List.mem_cons_self
    have := sub_len (l := l) (l' := l'.erase x) h.2 (fun y hy => (List.mem_erase_of_ne (fun z => h.1 (by rw [← z]; exact hy))).2 (k y (List.mem_cons_of_mem _ hy)))
    rw [List.length_erase_of_mem hx] at this
    have := List.length_pos_of_mem hx
    rw [List.length_cons]
    omega
theorem dup_ex {α : Type} [BEq α] [LawfulBEq α] : ∀ {l : List α}, ¬ l.Nodup → ∃ x, x ∈ l ∧ ∀ y, y ∈ l → y ∈ l.erase x
  | [], h => absurd List.nodup_nil h
  | x :: l, h => by
    rcases Classical.em (x ∈ l) with c | c
    · refine ⟨x, List.mem_cons_self, fun y hy => ?_⟩
      rw [List.erase_cons_head]
      rcases List.mem_cons.mp hy with rfl | e
      · exact c
      · exact e
    · have h2 : ¬ l.Nodup := fun z => h (List.nodup_cons.2 ⟨c, z⟩)
      obtain ⟨z, hz, hy⟩ := dup_ex h2
      have ne : x ≠ z := fun e => c (by rw [e]; exact hz)
      refine ⟨z, List.mem_cons_of_mem _ hz, fun y hy2 => ?_⟩
      rw [List.erase_cons_tail (by simpa using ne)]
      rcases List.mem_cons.mp hy2 with rfl | e
      · exact List.mem_cons_self
      · exact List.mem_cons_of_mem _ (hy y e)
/-- the distinct walls of a word: as many as are met an odd number of times as the tile's word has letters -/
theorem odd_len (hN : NF m nf) {w : W} (hw : w.length ≤ 60) {ks : List W} (hk : ks.Nodup) (hm : ∀ t, t ∈ ks ↔ t ∈ mirs nf w) :
    (ks.filter fun t => decide ((mirs nf w).count t % 2 = 1)).length = ln m w := by
  obtain ⟨r, hr, rr⟩ := red_ex (m := m) w
  have lr : r.length ≤ 60 := by
    have := ln_self (m := m) w
    rw [ln_eqv hr, rr] at this
    omega
  have nd := mirs_nodup hN r lr rr
  have key : ∀ t, (t ∈ ks.filter fun t => decide ((mirs nf w).count t % 2 = 1)) ↔ t ∈ mirs nf r := fun t => by
    rw [List.mem_filter, hm]
    constructor
    · rintro ⟨h1, h2⟩
      obtain ⟨n1, n2⟩ := mirs_nf hN w hw t h1
      rw [← od_count hN w hw t n1 (by omega), od_eqv hr, od_count hN r lr t n1 (by omega)] at h2
      have h2 := of_decide_eq_true h2
      exact List.count_pos_iff.mp (by omega)
    · intro h1
      obtain ⟨n1, n2⟩ := mirs_nf hN r lr t h1
      have h3 := od_count hN r lr t n1 (by omega)
      rw [count_nodup nd h1, ← od_eqv hr, od_count hN w hw t n1 (by omega)] at h3
      have h4 : decide ((mirs nf w).count t % 2 = 1) = true := h3
      have h5 := of_decide_eq_true h4
      exact ⟨List.count_pos_iff.mp (by omega), h4⟩
  have a := sub_len (hk.filter _) (fun x hx => (key x).1 hx)
  have b := sub_len nd (fun x hx => (key x).2 hx)
  rw [mirs_len] at a b
  rw [ln_eqv hr, rr]
  omega
theorem all_len (hN : NF m nf) {w : W} (hw : w.length ≤ 60) {ks : List W} (hk : ks.Nodup) (hm : ∀ t, t ∈ ks ↔ t ∈ mirs nf w) : ln m w = w.length ↔ ks.length = w.length := by
  constructor
  · intro h
    have a := sub_len hk (fun x hx => (hm x).1 hx)
    have b := sub_len (mirs_nodup hN w hw h) (fun x hx => (hm x).2 hx)
    rw [mirs_len] at a b
    omega
  · intro h
    have o := odd_len hN hw hk hm
    by_cases nd : (mirs nf w).Nodup
    · have e : (ks.filter fun t => decide ((mirs nf w).count t % 2 = 1)) = ks := by
        rw [List.filter_eq_self]
        intro t ht
        rw [count_nodup nd ((hm t).1 ht)]
        rfl
      rw [e] at o
      omega
    · exfalso
      obtain ⟨x, hx, hy⟩ := dup_ex nd
      have a := sub_len hk (l' := (mirs nf w).erase x) (fun y hk => hy y ((hm y).1 hk))
      rw [List.length_erase_of_mem hx, mirs_len] at a
      have := List.length_pos_of_mem hx
      rw [mirs_len] at this
      omega
theorem end_odd (hN : NF m nf) {w : W} (hw : w.length ≤ 60) (s : Fin 3) : (mirs nf w).count (nf (w ++ [s] ++ w.reverse)) % 2 = 1 ↔ ln m w = ln m (w ++ [s]) + 1 := by
  have l1 : (w ++ [s] ++ w.reverse).length ≤ 500 := by simp; omega
  have l2 := hN.l _ l1
  have e1 := (hN.e _ l1).symm
  have h1 := od_count hN w hw (nf (w ++ [s] ++ w.reverse)) (hN.c _ _ (by omega) l1 e1) (by omega)
  have h2 := od_iff (m := m) (t := nf (w ++ [s] ++ w.reverse)) ⟨w, s, e1⟩ w
  have e : Eqv m (nf (w ++ [s] ++ w.reverse) ++ w) (w ++ [s]) := by
    have a := e1.right w
    have b := (Eqv.inv_left (m := m) w).left (w ++ [s])
    rw [List.append_nil] at b
    exact a.trans (by simpa using b)
  rw [h1, ln_eqv e, decide_eq_true_eq] at h2
  rw [h2]
  have := ln_snoc (m := m) w s
  omega
end Cox

/-! The walls along a way, and the walls that part two tiles. -/
namespace Cox
variable {m : Fin 3 → Fin 3 → Nat} {nf : W → W}
theorem mem_mirs (hN : NF m nf) {w x : W} (hw : w.length ≤ 60) (r : Red m w) : x ∈ mirs nf w ↔ nf x = x ∧ x.length ≤ 400 ∧ od m w x = true := by
  constructor
  · intro h
    obtain ⟨h1, h2⟩ := mirs_nf hN w hw x h
    refine ⟨h1, by omega, ?_⟩
    rw [od_count hN w hw x h1 (by omega), count_nodup (mirs_nodup hN w hw r) h]
    rfl
  · rintro ⟨h1, h2, h3⟩
    rw [od_count hN w hw x h1 (by omega)] at h3
    have h4 := of_decide_eq_true h3
    exact List.count_pos_iff.mp (by omega)
theorem ltr_of {w : W} {k : Nat} (hk : k < w.length) : (w.drop k).take 1 = [w[k]] := by
  rw [List.drop_eq_getElem_cons hk]
  rfl
def wlsC (nf : W → W) (t w : W) : List W := (List.range w.length).map fun k => nf (t ++ w.take k ++ (w.drop k).take 1 ++ (t ++ w.take k).reverse)
theorem wlsC_map (hN : NF m nf) {t w : W} (ht : t.length ≤ 60) (hw : w.length ≤ 60) : wlsC nf t w = (mirs nf w).map fun x => nf (t ++ x ++ t.reverse) := by
  unfold wlsC mirs
  rw [List.map_map]
  apply List.map_congr_left
  intro k hk
  have hk := List.mem_range.mp hk
  show _ = nf (t ++ mirAt nf w k ++ t.reverse)
  unfold mirAt
  rw [ltr_of hk]
  have l1 : (w.take k ++ [w[k]] ++ (w.take k).reverse).length ≤ 121 := by simp; omega
  have l2 := hN.l _ (show (w.take k ++ [w[k]] ++ (w.take k).reverse).length ≤ 500 by omega)
  refine hN.c _ _ (by simp; omega) (by simp only [List.length_append, List.length_reverse]; omega) ?_
  have h := ((hN.e (w.take k ++ [w[k]] ++ (w.take k).reverse) (by omega)).left t).right t.reverse
  simpa using h
theorem conj_inj {t x y : W} (h : Eqv m (t ++ x ++ t.reverse) (t ++ y ++ t.reverse)) : Eqv m x y := by
  have h1 := cj_iff.2 (show Eqv m (t ++ x ++ t.reverse) (t ++ x ++ t.reverse) from .refl _)
  have h1 : Eqv m (cj t (t ++ x ++ t.reverse)) x := cj_iff.2 (.refl _)
  have h2 : Eqv m (cj t (t ++ y ++ t.reverse)) y := cj_iff.2 (.refl _)
  exact h1.symm.trans ((cj_eqv h).trans h2)
theorem wlsC_nodup (hN : NF m nf) {t w : W} (ht : t.length ≤ 60) (hw : w.length ≤ 60) (r : Red m w) : (wlsC nf t w).Nodup := by
  rw [wlsC_map hN ht hw]
  refine List.pairwise_map.mpr (List.Pairwise.imp_of_mem (fun {x y} hx hy ne e => ?_) (mirs_nodup hN w hw r))
  obtain ⟨x1, x2⟩ := mirs_nf hN w hw x hx
  obtain ⟨y1, y2⟩ := mirs_nf hN w hw y hy
  apply ne
  have lx : (t ++ x ++ t.reverse).length ≤ 500 := by simp only [List.length_append, List.length_reverse]; omega
  have ly : (t ++ y ++ t.reverse).length ≤ 500 := by simp only [List.length_append, List.length_reverse]; omega
  have h := (hN.e _ lx).trans ((show Eqv m (nf (t ++ x ++ t.reverse)) (nf (t ++ y ++ t.reverse)) by rw [e]; exact .refl _).trans (hN.e _ ly).symm)
  rw [← x1, ← y1]
  exact hN.c _ _ (by omega) (by omega) (conj_inj h)
theorem mem_wlsC (hN : NF m nf) {t w x : W} (ht : t.length ≤ 60) (hw : w.length ≤ 60) (r : Red m w) : x ∈ wlsC nf t w ↔ nf x = x ∧ x.length ≤ 260 ∧ od m w (cj t x) = true := by
  rw [wlsC_map hN ht hw]
  constructor
  · intro h
    obtain ⟨y, hy, rfl⟩ := List.mem_map.mp h
    obtain ⟨y1, y2, y3⟩ := (mem_mirs hN hw r).1 hy
    have y4 := (mirs_nf hN w hw y hy).2
    have ly : (t ++ y ++ t.reverse).length ≤ 250 := by simp only [List.length_append, List.length_reverse]; omega
    have e := hN.e (t ++ y ++ t.reverse) (by omega)
    have l := hN.l (t ++ y ++ t.reverse) (by omega)
    refine ⟨hN.c _ _ (by omega) (by omega) e.symm, by omega, ?_⟩
    rw [od_congr w (cj_iff.2 e.symm), y3]
  · rintro ⟨h1, h2, h3⟩
    have l : (cj t x).length ≤ 500 := by
      unfold cj
      simp only [List.length_append, List.length_reverse]
      omega
    have e := hN.e _ l
    have l2 := hN.l _ l
    have l3 : (cj t x).length ≤ 380 := by
      unfold cj
      simp only [List.length_append, List.length_reverse]
      omega
    refine List.mem_map.mpr ⟨nf (cj t x), ?_, ?_⟩
    · have n : nf (nf (cj t x)) = nf (cj t x) := hN.c _ _ (by omega) l e.symm
      have o : od m w (nf (cj t x)) = true := by rw [← od_congr w e]; exact h3
      rw [od_count hN w hw _ n (by omega)] at o
      have h4 := of_decide_eq_true o
      exact List.count_pos_iff.mp (by omega)
    · exact Eq.trans (hN.c _ _ (by simp only [List.length_append, List.length_reverse]; omega) (by omega) (cj_iff.1 e).symm) h1
/-- the walls that lie ahead of one of two tiles and not of the other one -/
def dueW (p q : List W) : List W := (p.filter fun x => decide (x ∉ q)) ++ (q.filter fun x => decide (x ∉ p))
theorem mem_dueW {p q : List W} {x : W} : x ∈ dueW p q ↔ xor (decide (x ∈ p)) (decide (x ∈ q)) = true := by
  unfold dueW
  rw [List.mem_append, List.mem_filter, List.mem_filter, decide_eq_true_iff, decide_eq_true_iff]
  by_cases h1 : x ∈ p <;> by_cases h2 : x ∈ q <;> simp [h1, h2]
theorem dueW_nodup {p q : List W} (hp : p.Nodup) (hq : q.Nodup) : (dueW p q).Nodup := by
  unfold dueW
  rw [List.nodup_append]
  refine ⟨hp.filter _, hq.filter _, ?_⟩
  rintro x hx y hy rfl
  rw [List.mem_filter, decide_eq_true_iff] at hx hy
  exact hy.2 hx.1
theorem perm_ext' {α : Type} [BEq α] [LawfulBEq α] : ∀ {p q : List α}, p.Nodup → q.Nodup → (∀ x, x ∈ p ↔ x ∈ q) → p.Perm q
  | [], [], _, _, _ => .nil
  | [], y :: q, _, _, h => absurd ((h y).2 List.mem_cons_self) (by simp)
  | x :: p, q, hp, hq, h => by
    rw [List.nodup_cons] at hp
    have hx : x ∈ q := (h x).1 List.mem_cons_self
    have k := List.perm_cons_erase hx
    refine (List.Perm.cons x (perm_ext' hp.2 (hq.erase x) fun y => ?_)).trans k.symm
    rw [hq.mem_erase_iff]
    constructor
    · intro hy
      exact ⟨fun e => hp.1 (by rw [← e]; exact hy), (h y).1 (List.mem_cons_of_mem _ hy)⟩
    · rintro ⟨h1, h2⟩
      rcases List.mem_cons.mp ((h y).2 h2) with e | e
      · exact absurd e h1
      · exact e
theorem parting_perm (hN : NF m nf) (hR : ∀ u : W, u.length ≤ 500 → Red m (nf u)) {u v : W} (hu : u.length ≤ 30) (hv : v.length ≤ 30) : (wlsC nf u (nf (u.reverse ++ v))).Perm (dueW (mirs nf (nf u)) (mirs nf (nf v))) := by
  have lu := hN.l u (by omega)
  have lv := hN.l v (by omega)
  have lw := hN.l (u.reverse ++ v) (by simp; omega)
  have lw2 : (nf (u.reverse ++ v)).length ≤ 60 := by
    rw [List.length_append, List.length_reverse] at lw
    omega
  have ru := hR u (by omega)
  have rv := hR v (by omega)
  have rw' := hR (u.reverse ++ v) (by simp; omega)
  refine perm_ext' (wlsC_nodup hN (by omega) lw2 rw') (dueW_nodup (mirs_nodup hN _ (by omega) ru) (mirs_nodup hN _ (by omega) rv)) fun x => ?_
  rw [mem_wlsC hN (by omega) lw2 rw', mem_dueW]
  have o : od m (nf (u.reverse ++ v)) (cj u x) = xor (od m (nf u) x) (od m (nf v) x) := by
    rw [← od_eqv (hN.e (u.reverse ++ v) (by simp; omega)), od_between, od_eqv (hN.e u (by omega)), od_eqv (hN.e v (by omega))]
  rw [o]
  constructor
  · rintro ⟨h1, h2, h3⟩
    have e1 : decide (x ∈ mirs nf (nf u)) = od m (nf u) x := by
      rw [Bool.eq_iff_iff, decide_eq_true_iff, mem_mirs hN (by omega) ru]
      exact ⟨fun h => h.2.2, fun h => ⟨h1, by omega, h⟩⟩
    have e2 : decide (x ∈ mirs nf (nf v)) = od m (nf v) x := by
      rw [Bool.eq_iff_iff, decide_eq_true_iff, mem_mirs hN (by omega) rv]
      exact ⟨fun h => h.2.2, fun h => ⟨h1, by omega, h⟩⟩
    rw [e1, e2]
    exact h3
  · intro h
    have hx : x ∈ mirs nf (nf u) ∨ x ∈ mirs nf (nf v) := by
      by_cases h1 : x ∈ mirs nf (nf u)
      · exact .inl h1
      · by_cases h2 : x ∈ mirs nf (nf v)
        · exact .inr h2
        · rw [decide_eq_false h1, decide_eq_false h2] at h
          cases h
    have hx2 : nf x = x ∧ x.length ≤ 130 := by
      rcases hx with h | h
      · exact mirs_nf hN _ (by omega) x h
      · exact mirs_nf hN _ (by omega) x h
    have e1 : decide (x ∈ mirs nf (nf u)) = od m (nf u) x := by
      rw [Bool.eq_iff_iff, decide_eq_true_iff, mem_mirs hN (by omega) ru]
      exact ⟨fun h => h.2.2, fun h => ⟨hx2.1, by omega, h⟩⟩
    have e2 : decide (x ∈ mirs nf (nf v)) = od m (nf v) x := by
      rw [Bool.eq_iff_iff, decide_eq_true_iff, mem_mirs hN (by omega) rv]
      exact ⟨fun h => h.2.2, fun h => ⟨hx2.1, by omega, h⟩⟩
    rw [e1, e2] at h
    exact ⟨hx2.1, by omega, h⟩
theorem near_od (hN : NF m nf) (hL : ∀ u : W, u.length ≤ 500 → (nf u).length = ln m u) {t u : W} (ht : Wl m t) (lt : t.length ≤ 300) (hu : u.length ≤ 60) :
    decide ((nf u).length < (nf (t ++ u)).length) = !decide (nf t ∈ mirs nf (nf u)) := by
  have lu := hN.l u (by omega)
  have l2 := hN.l t (by omega)
  have ru : Red m (nf u) := by
    show ln m (nf u) = (nf u).length
    rw [hL u (by omega), ← ln_eqv (hN.e u (by omega))]
  have et := hN.e t (by omega)
  have nn : nf (nf t) = nf t := hN.c _ _ (by omega) (by omega) et.symm
  rw [hL u (by omega), hL (t ++ u) (by simp; omega)]
  have h := od_iff ht u
  have o : od m (nf u) (nf t) = od m u t := by rw [← od_congr (nf u) et, ← od_eqv (hN.e u (by omega))]
  have e1 : nf t ∈ mirs nf (nf u) ↔ od m u t = true := by
    constructor
    · intro h1
      have := (mem_mirs hN (by omega) ru).1 h1
      rw [← o]
      exact this.2.2
    · intro h1
      rw [← o] at h1
      rw [od_count hN (nf u) (by omega) _ nn (by omega)] at h1
      have h4 := of_decide_eq_true h1
      exact List.count_pos_iff.mp (by omega)
  have ne : ln m (t ++ u) ≠ ln m u := fun e => by
    obtain ⟨a, s, hw⟩ := ht
    have p1 := ln_parity (m := m) (t ++ u)
    have p2 := ln_parity (m := m) u
    have p3 := hw.parity
    simp only [List.length_append, List.length_reverse, List.length_singleton] at p1 p3
    omega
  rw [Bool.eq_iff_iff, decide_eq_true_iff, Bool.not_eq_true', decide_eq_false_iff_not, e1, h]
  omega
end Cox

/-! The program's roots, by integers: how wrong they are, what the signs of their sums tell; the letter that is left out. -/
namespace Cox
open Lean.Grind
section
variable {m : Fin 3 → Fin 3 → Nat}
/-- the first letter of a word is the one that is left out -/
theorem left_first {x s : Fin 3} {v : W} (r : Red m v) (hv : ln m (v ++ [s]) = ln m v + 1) (hx : ln m (x :: v) = ln m (x :: (v ++ [s])) + 1) : Eqv m (x :: (v ++ [s])) v := by
  have w : Wl m (x :: v ++ [s] ++ (x :: v).reverse) := ⟨x :: v, s, .refl _⟩
  have e : Eqv m (x :: v ++ [s] ++ (x :: v).reverse ++ (x :: v)) (x :: v ++ [s]) := by
    have := (Eqv.inv_left (m := m) (x :: v)).left (x :: v ++ [s])
    rw [List.append_nil] at this
    simpa using this
  have o : od m (x :: v) (x :: v ++ [s] ++ (x :: v).reverse) = true := by
    rw [od_iff w, ln_eqv e]
    show ln m (x :: (v ++ [s])) < _
    omega
  obtain ⟨p, q, r0, e1, e2⟩ := od_split _ _ o
  have c := cut_out (y := q) e2
  rw [← e1] at c
  have k : Eqv m (x :: (v ++ [s])) (p ++ q) := e.symm.trans c
  cases p with
  | nil =>
    injection e1 with _ e3
    subst e3
    exact k
  | cons a p =>
    injection e1 with e4 e3
    subst e4
    exfalso
    have k2 : Eqv m (v ++ [s]) (p ++ q) := by
      have h := k.left [x]
      have h1 : Eqv m ([x] ++ (x :: (v ++ [s]))) (v ++ [s]) := .step (.cut [] (v ++ [s]) x)
      have h2 : Eqv m ([x] ++ (x :: p ++ q)) (p ++ q) := .step (.cut [] (p ++ q) x)
      exact h1.symm.trans (h.trans h2)
    have l1 := ln_eqv k2
    have l2 := ln_self (m := m) (p ++ q)
    have l3 : v.length = p.length + q.length + 1 := by rw [e3]; simp; omega
    have r : ln m v = v.length := r
    rw [List.length_append] at l2
    omega
end
/-! the same at the rational numbers and at the integers -/
section
variable {R : Type} [CommRing R]
theorem act_self2 {c : Fin 3 → Fin 3 → R} (h2 : ∀ i, c i i = -2) (s : Fin 3) : act c s (e s) = lc (-1) (e s) 0 (e s) := by
  have h2 := h2 s
  funext k
  unfold act bump lc
  have d : dot c s (e s) = c s s := by
    unfold dot e
    have h3 : s = 0 ∨ s = 1 ∨ s = 2 := by
      rcases s with ⟨s, hs⟩
      have : s = 0 ∨ s = 1 ∨ s = 2 := by omega
      rcases this with rfl | rfl | rfl
      · exact .inl rfl
      · exact .inr (.inl rfl)
      · exact .inr (.inr rfl)
    rcases h3 with rfl | rfl | rfl <;> simp <;> grind
  rw [d, h2]
  unfold e
  by_cases h : k = s
  · simp only [if_pos h]; grind
  · simp only [if_neg h]; grind
theorem act_other2 {c : Fin 3 → Fin 3 → R} {i j : Fin 3} (hij : i ≠ j) : act c i (e j) = lc 1 (e j) (c i j) (e i) := by
  funext k
  unfold act bump lc
  have d : dot c i (e j) = c i j := by
    unfold dot e
    have h3 : j = 0 ∨ j = 1 ∨ j = 2 := by
      rcases j with ⟨j, hj⟩
      have : j = 0 ∨ j = 1 ∨ j = 2 := by omega
      rcases this with rfl | rfl | rfl
      · exact .inl rfl
      · exact .inr (.inl rfl)
      · exact .inr (.inr rfl)
    rcases h3 with rfl | rfl | rfl <;> simp <;> grind
  rw [d]
  unfold e
  by_cases h : k = i
  · simp only [if_pos h]; grind
  · simp only [if_neg h]; grind
theorem depG_root2 {c : Fin 3 → Fin 3 → R} (h2 : ∀ i, c i i = -2) : ∀ (w : W) (j : Fin 3), depG c w j = sumv (actw c w.reverse (e j))
  | [], j => (sumv_e j).symm
  | i :: w, j => by
    show stepG c i (depG c w) j = _
    rw [List.reverse_cons, actw_append]
    show _ = sumv (actw c w.reverse (act c i (e j)))
    unfold stepG
    by_cases hj : j = i
    · subst hj
      rw [if_pos rfl, act_self2 h2, actw_lc, sumv_lc, depG_root2 h2 w j]
      grind
    · rw [if_neg hj, act_other2 (fun z => hj z.symm), actw_lc, sumv_lc, depG_root2 h2 w j, depG_root2 h2 w i]
      grind
end
/-- the sum that makes a root's new coordinate -/
def othI (B : Fin 3 → Fin 3 → Int) (i : Fin 3) (D : Fin 3 → Int) : Int := if i = 0 then B 0 1 * D 1 + B 0 2 * D 2 else if i = 1 then B 1 0 * D 0 + B 1 2 * D 2 else B 2 0 * D 0 + B 2 1 * D 1
def actI (B : Fin 3 → Fin 3 → Int) (T : Int) (i : Fin 3) (D : Fin 3 → Int) : Fin 3 → Int := fun k => if k = i then othI B i D / T - D i else D k
def rootI (B : Fin 3 → Fin 3 → Int) (T : Int) (w : W) (s : Fin 3) : Fin 3 → Int := w.foldr (actI B T) fun k => if k = s then T else 0
def p5 : Nat → Rat
  | 0 => 1
  | k + 1 => 5 * p5 k
theorem p5_ge : ∀ k, 1 ≤ p5 k
  | 0 => Rat.le_refl
  | k + 1 => by
    have := p5_ge k
    show 1 ≤ 5 * p5 k
    grind
/-- two products and one floor -/
theorem err_two {T q b1 b2 D1 D2 c1 c2 d1 d2 M e : Rat} (hT : 0 < T) (h1 : q * T ≤ b1 * D1 + b2 * D2) (h2 : b1 * D1 + b2 * D2 ≤ q * T + T) (hb1 : -2 ≤ b1 - T * c1 ∧ b1 - T * c1 ≤ 2) (hb2 : -2 ≤ b2 - T * c2 ∧ b2 - T * c2 ≤ 2) (hc1 : 0 ≤ c1 ∧ c1 ≤ 2) (hc2 : 0 ≤ c2 ∧ c2 ≤ 2)
    (hd1 : -M ≤ d1 ∧ d1 ≤ M) (hd2 : -M ≤ d2 ∧ d2 ≤ M) (he1 : -e ≤ D1 - T * d1 ∧ D1 - T * d1 ≤ e) (he2 : -e ≤ D2 - T * d2 ∧ D2 - T * d2 ≤ e) (heT : e ≤ T) (e0 : 0 ≤ e) :
    -(4 * e + 4 * M + 5) ≤ q - T * (c1 * d1 + c2 * d2) ∧ q - T * (c1 * d1 + c2 * d2) ≤ 4 * e + 4 * M + 5 := by
  have t0 : 0 ≤ T := by grind
  have p1 := mul_bd (a := c1) (b := D1 - T * d1) (B := 2) (D := e) (by grind) hc1.2 he1.1 he1.2
  have p2 := mul_bd (a := -c1) (b := D1 - T * d1) (B := 2) (D := e) (by grind) (by grind) he1.1 he1.2
  have r1 := mul_bd (a := c2) (b := D2 - T * d2) (B := 2) (D := e) (by grind) hc2.2 he2.1 he2.2
  have r2 := mul_bd (a := -c2) (b := D2 - T * d2) (B := 2) (D := e) (by grind) (by grind) he2.1 he2.2
  have m1 := Rat.mul_nonneg t0 (show 0 ≤ M - d1 by grind)
  have m2 := Rat.mul_nonneg t0 (show 0 ≤ d1 + M by grind)
  have m3 := Rat.mul_nonneg t0 (show 0 ≤ M - d2 by grind)
  have m4 := Rat.mul_nonneg t0 (show 0 ≤ d2 + M by grind)
  have p3 := mul_bd (a := b1 - T * c1) (b := D1) (B := 2) (D := T * M + T) hb1.1 hb1.2 (by grind) (by grind)
  have p4 := mul_bd (a := -(b1 - T * c1)) (b := D1) (B := 2) (D := T * M + T) (by grind) (by grind) (by grind) (by grind)
  have r3 := mul_bd (a := b2 - T * c2) (b := D2) (B := 2) (D := T * M + T) hb2.1 hb2.2 (by grind) (by grind)
  have r4 := mul_bd (a := -(b2 - T * c2)) (b := D2) (B := 2) (D := T * M + T) (by grind) (by grind) (by grind) (by grind)
  have u1 := Rat.mul_nonneg t0 (show 0 ≤ 2 * e - c1 * (D1 - T * d1) by grind)
  have u2 := Rat.mul_nonneg t0 (show 0 ≤ 2 * e - -c1 * (D1 - T * d1) by grind)
  have v1 := Rat.mul_nonneg t0 (show 0 ≤ 2 * e - c2 * (D2 - T * d2) by grind)
  have v2 := Rat.mul_nonneg t0 (show 0 ≤ 2 * e - -c2 * (D2 - T * d2) by grind)
  constructor
  · refine le_of_mul hT ?_
    grind
  · refine le_of_mul hT ?_
    grind
def two' (c : Fin 3 → Fin 3 → Rat) : Fin 3 → Fin 3 → Rat := fun i j => if i = j then -2 else c i j
theorem depG_two (c : Fin 3 → Fin 3 → Rat) : ∀ (w : W) (j : Fin 3), depG (two' c) w j = depG c w j
  | [], _ => rfl
  | i :: w, j => by
    show stepG (two' c) i (depG (two' c) w) j = stepG c i (depG c w) j
    unfold stepG
    by_cases hj : j = i
    · rw [if_pos hj, if_pos hj, depG_two c w i]
    · rw [if_neg hj, if_neg hj, depG_two c w i, depG_two c w j]
      unfold two'
      rw [if_neg (fun z => hj z.symm)]
theorem errR {B : Fin 3 → Fin 3 → Int} {T : Int} {c : Fin 3 → Fin 3 → Rat} (hT : 0 < T) (hn : Near B T c) (K : Nat) (hK : ∀ k, k ≤ K → 2 * ((k : Rat) * p5 k) ≤ (T : Rat)) (s : Fin 3) : ∀ w : W, w.length ≤ K → ∀ k, (-(2 * ((w.length : Rat) * p5 w.length)) ≤ (rootI B T w s k : Rat) - (T : Rat) * actw (two' c) w (e s) k ∧ (rootI B T w s k : Rat) - (T : Rat) * actw (two' c) w (e s) k ≤ 2 * ((w.length : Rat) * p5 w.length)) ∧ (-(p5 w.length) ≤ actw (two' c) w (e s) k ∧ actw (two' c) w (e s) k ≤ p5 w.length)
  | [], _, k => by
    have e1 : rootI B T [] s k = if k = s then T else 0 := rfl
    have e2 : actw (two' c) [] (e s) k = if k = s then 1 else 0 := rfl
    have e3 : p5 ([] : W).length = 1 := rfl
    have e4 : ((([] : W).length : Nat) : Rat) = 0 := rfl
    rw [e1, e2, e3, e4]
    by_cases h : k = s
    · rw [if_pos h, if_pos h]
      grind
    · rw [if_neg h, if_neg h]
      have z : ((0 : Int) : Rat) = 0 := rfl
      rw [z]
      grind
  | i :: w, hw, k => by
    have hw2 : w.length + 1 ≤ K := hw
    have ih := errR hT hn K hK s w (by omega)
    have hTr : (0 : Rat) < (T : Rat) := by
      have : ((0 : Int) : Rat) < (T : Rat) := Rat.intCast_lt_intCast.mpr hT
      exact this
    have p := p5_ge w.length
    have n : (0 : Rat) ≤ (w.length : Rat) := by grind
    have e0 := Rat.mul_nonneg n (show 0 ≤ p5 w.length by grind)
    have eT := hK w.length (by omega)
    have eL : (((i :: w).length : Nat) : Rat) * p5 (i :: w).length = 5 * ((w.length : Rat) * p5 w.length) + 5 * p5 w.length := by
      show ((w.length + 1 : Nat) : Rat) * (5 * p5 w.length) = _
      grind
    have eP : p5 (i :: w).length = 5 * p5 w.length := rfl
    rw [eL, eP]
    have eI : rootI B T (i :: w) s k = actI B T i (rootI B T w s) k := rfl
    have eD : actw (two' c) (i :: w) (e s) k = act (two' c) i (actw (two' c) w (e s)) k := rfl
    rw [eI, eD]
    unfold actI act bump
    by_cases hk : k = i
    · rw [if_pos hk, if_pos hk]
      subst hk
      have key : ∀ (b1 b2 D1 D2 : Int) (c1 c2 d1 d2 : Rat), (-2 ≤ (b1 : Rat) - T * c1 ∧ (b1 : Rat) - T * c1 ≤ 2) → (-2 ≤ (b2 : Rat) - T * c2 ∧ (b2 : Rat) - T * c2 ≤ 2) → (0 ≤ c1 ∧ c1 ≤ 2) → (0 ≤ c2 ∧ c2 ≤ 2) →
          ((-(2 * ((w.length : Rat) * p5 w.length)) ≤ (D1 : Rat) - T * d1 ∧ (D1 : Rat) - T * d1 ≤ 2 * ((w.length : Rat) * p5 w.length)) ∧ (-(p5 w.length) ≤ d1 ∧ d1 ≤ p5 w.length)) →
          ((-(2 * ((w.length : Rat) * p5 w.length)) ≤ (D2 : Rat) - T * d2 ∧ (D2 : Rat) - T * d2 ≤ 2 * ((w.length : Rat) * p5 w.length)) ∧ (-(p5 w.length) ≤ d2 ∧ d2 ≤ p5 w.length)) →
          othI B k (rootI B T w s) = b1 * D1 + b2 * D2 → dot (two' c) k (actw (two' c) w (e s)) = -2 * actw (two' c) w (e s) k + c1 * d1 + c2 * d2 →
          (-(2 * (5 * ((w.length : Rat) * p5 w.length) + 5 * p5 w.length)) ≤ ((othI B k (rootI B T w s) / T - rootI B T w s k : Int) : Rat) - (T : Rat) * (actw (two' c) w (e s) k + dot (two' c) k (actw (two' c) w (e s))) ∧
            ((othI B k (rootI B T w s) / T - rootI B T w s k : Int) : Rat) - (T : Rat) * (actw (two' c) w (e s) k + dot (two' c) k (actw (two' c) w (e s))) ≤ 2 * (5 * ((w.length : Rat) * p5 w.length) + 5 * p5 w.length)) ∧
          (-(5 * p5 w.length) ≤ actw (two' c) w (e s) k + dot (two' c) k (actw (two' c) w (e s)) ∧ actw (two' c) w (e s) k + dot (two' c) k (actw (two' c) w (e s)) ≤ 5 * p5 w.length) := by
        intro b1 b2 D1 D2 c1 c2 d1 d2 hb1 hb2 hc1 hc2 h1 h2 eo ed
        rw [eo, ed]
        have hk := ih k
        have f1 := Int.ediv_mul_le (b1 * D1 + b2 * D2) (show T ≠ 0 by omega)
        have f2 := Int.lt_ediv_add_one_mul_self (b1 * D1 + b2 * D2) hT
        have g1 : (((b1 * D1 + b2 * D2) / T * T : Int) : Rat) ≤ ((b1 * D1 + b2 * D2 : Int) : Rat) := Rat.intCast_le_intCast.mpr f1
        have g2 : ((b1 * D1 + b2 * D2 : Int) : Rat) ≤ ((((b1 * D1 + b2 * D2) / T + 1) * T : Int) : Rat) := Rat.intCast_le_intCast.mpr (by omega)
        rw [Rat.intCast_mul, Rat.intCast_add, Rat.intCast_mul, Rat.intCast_mul] at g1
        rw [Rat.intCast_mul, Rat.intCast_add, Rat.intCast_add, Rat.intCast_mul, Rat.intCast_mul] at g2
        have one : ((1 : Int) : Rat) = 1 := rfl
        rw [one] at g2
        have es := err_two (q := (((b1 * D1 + b2 * D2) / T : Int) : Rat)) hTr g1 (by grind) hb1 hb2 hc1 hc2 h1.2 h2.2 h1.1 h2.1 eT (by grind)
        rw [Rat.intCast_sub]
        have x1 := mul_bd (a := c1) (b := d1) (B := 2) (D := p5 w.length) (by grind) hc1.2 h1.2.1 h1.2.2
        have x2 := mul_bd (a := -c1) (b := d1) (B := 2) (D := p5 w.length) (by grind) (by grind) h1.2.1 h1.2.2
        have y1 := mul_bd (a := c2) (b := d2) (B := 2) (D := p5 w.length) (by grind) hc2.2 h2.2.1 h2.2.2
        have y2 := mul_bd (a := -c2) (b := d2) (B := 2) (D := p5 w.length) (by grind) (by grind) h2.2.1 h2.2.2
        constructor
        · constructor <;> grind
        · constructor <;> grind
      have h3 : k = 0 ∨ k = 1 ∨ k = 2 := by
        rcases k with ⟨k, hk⟩
        have : k = 0 ∨ k = 1 ∨ k = 2 := by omega
        rcases this with rfl | rfl | rfl
        · exact .inl rfl
        · exact .inr (.inl rfl)
        · exact .inr (.inr rfl)
      rcases h3 with rfl | rfl | rfl
      · exact key _ _ _ _ _ _ _ _ (hn.b 0 1 (by decide)) (hn.b 0 2 (by decide)) (hn.c 0 1 (by decide)) (hn.c 0 2 (by decide)) (ih 1) (ih 2) rfl (by unfold dot two'; simp)
      · exact key _ _ _ _ _ _ _ _ (hn.b 1 0 (by decide)) (hn.b 1 2 (by decide)) (hn.c 1 0 (by decide)) (hn.c 1 2 (by decide)) (ih 0) (ih 2) rfl (by unfold dot two'; simp; grind)
      · exact key _ _ _ _ _ _ _ _ (hn.b 2 0 (by decide)) (hn.b 2 1 (by decide)) (hn.c 2 0 (by decide)) (hn.c 2 1 (by decide)) (ih 0) (ih 1) rfl (by unfold dot two'; simp; grind)
    · rw [if_neg hk, if_neg hk]
      have h := ih k
      constructor
      · constructor <;> grind
      · constructor <;> grind
def sumI (D : Fin 3 → Int) : Int := D 0 + D 1 + D 2
/-- the sign of a root's sum tells whether the letter lengthens the word -/
theorem rsigns {m : Fin 3 → Fin 3 → Nat} {B : Fin 3 → Fin 3 → Int} {T : Int} {K L : Nat} (F : Fits m B T K) (hL : ∀ k, k ≤ L → 9 * ((k : Rat) * p5 k) ≤ (T : Rat)) {w : W} (hw : w.length ≤ L) (s : Fin 3) : (ln m (w ++ [s]) = ln m w + 1 → 0 < sumI (rootI B T w s)) ∧ (ln m w = ln m (w ++ [s]) + 1 → sumI (rootI B T w s) < 0) := by
  obtain ⟨c, cR, O, hc, hn⟩ := F.seq
  have hTr : (0 : Rat) < (T : Rat) := by
    have : ((0 : Int) : Rat) < (T : Rat) := Rat.intCast_lt_intCast.mpr F.pos
    exact this
  have k0 := p5_ge w.length
  have n0 : (0 : Rat) ≤ (w.length : Rat) := by grind
  have x0 := Rat.mul_nonneg n0 (show 0 ≤ p5 w.length by grind)
  have rm := hL w.length hw
  have hK : ∀ k, k ≤ L → 2 * ((k : Rat) * p5 k) ≤ (T : Rat) := fun k hk => by
    have h1 := hL k hk
    have h2 := p5_ge k
    have h3 : (0 : Rat) ≤ (k : Rat) := by grind
    have h4 := Rat.mul_nonneg h3 (show 0 ≤ p5 k by grind)
    grind
  have root := depS_of c cR hc w.reverse s
  have flip : ln m (s :: w.reverse) = ln m (w ++ [s]) := by
    rw [← ln_reverse, List.reverse_cons, List.reverse_reverse]
  have flip0 : ln m w.reverse = ln m w := ln_reverse w
  have sums : ((sumI (rootI B T w s) : Int) : Rat) = (rootI B T w s 0 : Rat) + (rootI B T w s 1 : Rat) + (rootI B T w s 2 : Rat) := by
    unfold sumI
    rw [Rat.intCast_add, Rat.intCast_add]
  have deps : ∀ N, depG (fun i j => (c i j).f N) w.reverse s = actw (two' fun i j => (c i j).f N) w (e s) 0 + actw (two' fun i j => (c i j).f N) w (e s) 1 + actw (two' fun i j => (c i j).f N) w (e s) 2 := fun N => by
    rw [← depG_two, depG_root2 (fun i => by unfold two'; rw [if_pos rfl]), List.reverse_reverse]
    rfl
  constructor
  · intro h
    have g := dep_far O (w := w.reverse) (j := s) (by rw [flip, flip0]; exact h)
    rw [root] at g
    obtain ⟨N, hN⟩ := ge_member g
    have q := hN _ rfl
    rw [depS_f, deps N] at q
    have er := errR F.pos (hn N) L hK s w hw
    have e0 := (er 0).1
    have e1 := (er 1).1
    have e2 := (er 2).1
    have sm := sums
    have tq := Rat.mul_nonneg (show 0 ≤ (T : Rat) by grind) (show 0 ≤ 4 * (actw (two' fun i j => (c i j).f N) w (e s) 0 + actw (two' fun i j => (c i j).f N) w (e s) 1 + actw (two' fun i j => (c i j).f N) w (e s) 2) - 3 by grind)
    have r : ((0 : Int) : Rat) < (sumI (rootI B T w s) : Rat) := by
      show (0 : Rat) < _
      rw [sm]
      grind
    exact Rat.intCast_lt_intCast.mp r
  · intro h
    have g := dep_near O (w := w.reverse) (j := s) (by rw [flip, flip0]; exact h)
    rw [root] at g
    have g2 : 1 ≤ Re.of (depS c w.reverse s).neg := by
      have e : Re.of (depS c w.reverse s).neg = -Re.of (depS c w.reverse s) := rfl
      rw [e]
      grind
    obtain ⟨N, hN⟩ := ge_member g2
    have q := hN _ rfl
    have en : (depS c w.reverse s).neg.f N = -(depS c w.reverse s).f N := rfl
    rw [en, depS_f, deps N] at q
    have er := errR F.pos (hn N) L hK s w hw
    have e0 := (er 0).1
    have e1 := (er 1).1
    have e2 := (er 2).1
    have sm := sums
    have tq := Rat.mul_nonneg (show 0 ≤ (T : Rat) by grind) (show 0 ≤ -4 * (actw (two' fun i j => (c i j).f N) w (e s) 0 + actw (two' fun i j => (c i j).f N) w (e s) 1 + actw (two' fun i j => (c i j).f N) w (e s) 2) - 3 by grind)
    have r : (sumI (rootI B T w s) : Rat) < ((0 : Int) : Rat) := by
      show _ < (0 : Rat)
      rw [sm]
      grind
    exact Rat.intCast_lt_intCast.mp r
theorem kp5_mono (k : Nat) : (k : Rat) * p5 k ≤ ((k + 1 : Nat) : Rat) * p5 (k + 1) := by
  have a := p5_ge k
  have n : (0 : Rat) ≤ (k : Rat) := by grind
  have x := Rat.mul_nonneg n (show 0 ≤ p5 k by grind)
  show _ ≤ ((k + 1 : Nat) : Rat) * (5 * p5 k)
  have e : ((k + 1 : Nat) : Rat) * (5 * p5 k) = 5 * ((k : Rat) * p5 k) + 5 * p5 k := by grind
  rw [e]
  grind
theorem kp5_le (k : Nat) : ∀ d, (k : Rat) * p5 k ≤ ((k + d : Nat) : Rat) * p5 (k + d)
  | 0 => Rat.le_refl
  | d + 1 => Rat.le_trans (kp5_le k d) (kp5_mono (k + d))
theorem room5 : ∀ k : Nat, k ≤ 64 → 9 * ((k : Rat) * p5 k) ≤ (((2 : Int) ^ 288 : Int) : Rat) := fun k hk => by
  have h := kp5_le k (64 - k)
  rw [show k + (64 - k) = 64 by omega] at h
  have h2 : 9 * (((64 : Nat) : Rat) * p5 64) ≤ (((2 : Int) ^ 288 : Int) : Rat) := by decide +kernel
  grind
section
variable {m : Fin 3 → Fin 3 → Nat}
/-- the last place whose rest the letter does not lengthen is the one that is left out -/
theorem left_place {w : W} {s : Fin 3} (r : Red m w) {k : Nat} (hk : k < w.length) (h1 : ln m (w.drop k) = ln m (w.drop k ++ [s]) + 1) (h2 : ln m (w.drop (k + 1) ++ [s]) = ln m (w.drop (k + 1)) + 1) : Eqv m (w ++ [s]) (w.take k ++ w.drop (k + 1)) := by
  have e := List.drop_eq_getElem_cons hk
  have t := List.take_append_drop k w
  have r2 : Red m (w.drop (k + 1)) := by
    have r3 := r
    rw [← List.take_append_drop (k + 1) w] at r3
    exact r3.part.2
  rw [e] at h1
  have f := left_first r2 h2 h1
  have g := f.left (w.take k)
  have e3 : w.take k ++ (w[k] :: w.drop (k + 1)) = w := by rw [← e]; exact t
  have e2 : w.take k ++ w[k] :: (w.drop (k + 1) ++ [s]) = w ++ [s] := by
    have x : w.take k ++ w[k] :: (w.drop (k + 1) ++ [s]) = (w.take k ++ (w[k] :: w.drop (k + 1))) ++ [s] := by rw [List.append_assoc, List.cons_append]
    rw [x, e3]
  rw [e2] at g
  exact g
/-- only one place leads there -/
theorem left_unique {w : W} (r : Red m w) {i j : Nat} (hij : i < j) (hj : j < w.length) : ¬ Eqv m (w.take i ++ w.drop (i + 1)) (w.take j ++ w.drop (j + 1)) := by
  intro h
  obtain ⟨a, p, b, q, c, rfl, la, lb⟩ : ∃ (a : W) (p : Fin 3) (b : W) (q : Fin 3) (c : W), w = a ++ p :: (b ++ q :: c) ∧ a.length = i ∧ a.length + 1 + b.length = j := by
    refine ⟨w.take i, w[i]'(by omega), (w.drop (i + 1)).take (j - (i + 1)), w[j], w.drop (j + 1), ?_, by rw [List.length_take]; omega, by rw [List.length_take, List.length_take, List.length_drop]; omega⟩
    have e1 := List.drop_eq_getElem_cons (show i < w.length by omega)
    have e2 := List.drop_eq_getElem_cons hj
    have t1 := List.take_append_drop (j - (i + 1)) (w.drop (i + 1))
    rw [List.drop_drop, show i + 1 + (j - (i + 1)) = j by omega, e2] at t1
    rw [t1, ← e1, List.take_append_drop]
  have d1 : (a ++ p :: (b ++ q :: c)).take i = a := by rw [← la]; simp
  have d2 : (a ++ p :: (b ++ q :: c)).drop (i + 1) = b ++ q :: c := by
    rw [← la, show a ++ p :: (b ++ q :: c) = (a ++ [p]) ++ (b ++ q :: c) by simp, show a.length + 1 = (a ++ [p]).length by simp]
    exact List.drop_left
  have d3 : (a ++ p :: (b ++ q :: c)).take j = a ++ p :: b := by
    rw [← lb, show a ++ p :: (b ++ q :: c) = (a ++ p :: b) ++ (q :: c) by simp, show a.length + 1 + b.length = (a ++ p :: b).length by simp; omega]
    exact List.take_left
  have d4 : (a ++ p :: (b ++ q :: c)).drop (j + 1) = c := by
    rw [← lb, show a ++ p :: (b ++ q :: c) = (a ++ p :: b ++ [q]) ++ c by simp, show a.length + 1 + b.length + 1 = (a ++ p :: b ++ [q]).length by simp; omega]
    exact List.drop_left
  rw [d1, d2, d3, d4] at h
  have h1 : Eqv m (b ++ q :: c) (p :: b ++ c) := by
    have x := h.left a.reverse
    have y1 : Eqv m (a.reverse ++ (a ++ (b ++ q :: c))) (b ++ q :: c) := by
      have := (Eqv.inv_left (m := m) a).right (b ++ q :: c)
      simpa using this
    have y2 : Eqv m (a.reverse ++ (a ++ p :: b ++ c)) (p :: b ++ c) := by
      have := (Eqv.inv_left (m := m) a).right (p :: b ++ c)
      simpa using this
    exact y1.symm.trans (x.trans y2)
  have h2 : Eqv m (a ++ p :: (b ++ q :: c)) (a ++ (b ++ c)) := by
    have x := h1.left (a ++ [p])
    have y : Eqv m (a ++ [p] ++ (p :: b ++ c)) (a ++ (b ++ c)) := by
      have := (Eqv.cancel (m := m) p).app a (b ++ c)
      simpa using this
    have e : a ++ [p] ++ (b ++ q :: c) = a ++ p :: (b ++ q :: c) := by simp
    rw [e] at x
    exact x.trans y
  have l1 := ln_eqv h2
  have l2 := ln_self (m := m) (a ++ (b ++ c))
  have r : ln m (a ++ p :: (b ++ q :: c)) = (a ++ p :: (b ++ q :: c)).length := r
  simp only [List.length_append, List.length_cons] at r l2
  omega
end
end Cox

/-! What remains of a normal word is normal. -/
namespace Cox
theorem lx_pre : ∀ {a d x y : W}, a.length = d.length → lx (a ++ x) (d ++ y) → lx a d
  | [], [], _, _, _, _ => trivial
  | [], _ :: _, _, _, h, _ => by cases h
  | _ :: _, [], _, _, h, _ => by cases h
  | i :: a, j :: d, x, y, h, k => by
    have h : a.length = d.length := by simpa using h
    have k : i < j ∨ (i = j ∧ lx (a ++ x) (d ++ y)) := k
    rcases k with k | ⟨k, k2⟩
    · exact .inl k
    · exact .inr ⟨k, lx_pre h k2⟩
theorem lx_cut : ∀ {a x y : W}, lx (a ++ x) (a ++ y) → lx x y
  | [], _, _, h => h
  | i :: a, x, y, h => by
    have h : i < i ∨ (i = i ∧ lx (a ++ x) (a ++ y)) := h
    rcases h with h | ⟨_, h⟩
    · exact absurd h (Fin.lt_irrefl i)
    · exact lx_cut h
theorem lx_put : ∀ {a x y : W}, lx x y → lx (a ++ x) (a ++ y)
  | [], _, _, h => h
  | i :: a, x, y, h => .inr ⟨rfl, lx_put h⟩
/-- if a letter of a least word is left out as an end's, what remains is the least -/
theorem left_least {m : Fin 3 → Fin 3 → Nat} {a c d : W} {p s : Fin 3} (hw : ∀ v, Red m v → Eqv m (a ++ p :: c) v → lx (a ++ p :: c) v) (rw' : Red m (a ++ p :: c)) (e : Eqv m (a ++ p :: c ++ [s]) (a ++ c))
    (hd : Eqv m (a ++ c) d) (ld : d.length = (a ++ c).length) (h : lx d (a ++ c)) : d = a ++ c := by
  have la : a.length ≤ d.length := by rw [ld, List.length_append]; omega
  obtain ⟨d1, d2, rfl, l1⟩ : ∃ d1 d2 : W, d = d1 ++ d2 ∧ d1.length = a.length := ⟨d.take a.length, d.drop a.length, (List.take_append_drop _ _).symm, by rw [List.length_take]; omega⟩
  have ew : Eqv m (a ++ p :: c) (d1 ++ d2 ++ [s]) := by
    have x := e.right [s]
    have y : Eqv m (a ++ p :: c ++ [s] ++ [s]) (a ++ p :: c) := by
      have := (Eqv.cancel (m := m) s).left (a ++ p :: c)
      simpa using this
    exact y.symm.trans (x.trans (hd.right [s]))
  have lw : (d1 ++ d2 ++ [s]).length = (a ++ p :: c).length := by
    rw [List.length_append, ld]
    simp
    omega
  have red_of : ∀ v : W, Eqv m (a ++ p :: c) v → v.length = (a ++ p :: c).length → Red m v := fun v ev lv => by
    show ln m v = v.length
    rw [← ln_eqv ev, lv]
    exact rw'
  have k1 := hw _ (red_of _ ew lw) ew
  rw [List.append_assoc] at k1
  have e1 := lx_pre l1.symm k1
  have e2 := lx_pre l1 h
  have e3 : d1 = a := lx_antisymm l1 e2 e1
  subst e3
  have ec : Eqv m c d2 := by
    have x := hd.left d1.reverse
    have y1 : Eqv m (d1.reverse ++ (d1 ++ c)) c := by
      have := (Eqv.inv_left (m := m) d1).right c
      simpa using this
    have y2 : Eqv m (d1.reverse ++ (d1 ++ d2)) d2 := by
      have := (Eqv.inv_left (m := m) d1).right d2
      simpa using this
    exact y1.symm.trans (x.trans y2)
  have lc : d2.length = c.length := by
    rw [List.length_append, List.length_append] at ld
    omega
  have ep : Eqv m (d1 ++ p :: c) (d1 ++ p :: d2) := by
    have := ec.left (d1 ++ [p])
    simpa using this
  have k2 := hw _ (red_of _ ep (by simp [lc])) ep
  have k3 : lx (p :: c) (p :: d2) := lx_cut k2
  have k4 : lx c d2 := lx_cut (a := [p]) k3
  have k5 : lx d2 c := lx_cut h
  rw [lx_antisymm lc k5 k4]
end Cox

/-! The walls that a way crosses an odd number of times. -/
namespace Cox
variable {m : Fin 3 → Fin 3 → Nat} {nf : W → W}
theorem count_map_on {α β : Type} [BEq α] [LawfulBEq α] [BEq β] [LawfulBEq β] (f : α → β) : ∀ (l : List α) (x : α), (∀ y ∈ l, f y = f x → y = x) → (l.map f).count (f x) = l.count x
  | [], _, _ => rfl
  | y :: l, x, h => by
    rw [List.map_cons, List.count_cons, List.count_cons, count_map_on f l x fun z hz => h z (List.mem_cons_of_mem _ hz)]
    by_cases e : y = x
    · rw [e, beq_self_eq_true, beq_self_eq_true]
    · rw [beq_eq_false_iff_ne.mpr e, beq_eq_false_iff_ne.mpr fun z => e (h y List.mem_cons_self z)]
theorem odd_walls (hN : NF m nf) {t p q : W} (ht : t.length ≤ 60) (hp : p.length ≤ 60) (hq : q.length ≤ 60) (r : Red m q) (e : Eqv m p q) (y : W) : y ∈ wlsC nf t q ↔ (wlsC nf t p).count y % 2 = 1 := by
  have inj : ∀ x x', nf x = x → nf x' = x' → x.length ≤ 130 → x'.length ≤ 130 → nf (t ++ x ++ t.reverse) = nf (t ++ x' ++ t.reverse) → x = x' := fun x x' h1 h2 l1 l2 h => by
    have e1 := hN.e (t ++ x ++ t.reverse) (by simp only [List.length_append, List.length_reverse]; omega)
    have e2 := hN.e (t ++ x' ++ t.reverse) (by simp only [List.length_append, List.length_reverse]; omega)
    rw [h] at e1
    have := hN.c x x' (by omega) (by omega) (conj_inj (e1.trans e2.symm))
    rw [h1, h2] at this
    exact this
  have cnt : ∀ x, nf x = x → x.length ≤ 130 → (wlsC nf t p).count (nf (t ++ x ++ t.reverse)) = (mirs nf p).count x := fun x h1 l1 => by
    rw [wlsC_map hN ht hp]
    exact count_map_on (fun x => nf (t ++ x ++ t.reverse)) (mirs nf p) x fun z hz h => by
      obtain ⟨a1, a2⟩ := mirs_nf hN p hp z hz
      exact inj z x a1 h1 a2 l1 h
  constructor
  · intro hy
    rw [wlsC_map hN ht hq] at hy
    obtain ⟨x, hx, rfl⟩ := List.mem_map.mp hy
    obtain ⟨a1, a2⟩ := mirs_nf hN q hq x hx
    rw [cnt x a1 a2]
    have o1 := ((mem_mirs hN hq r).mp hx).2.2
    rw [← od_eqv e, od_count hN p hp x a1 (by omega)] at o1
    exact of_decide_eq_true o1
  · intro hc
    have hm : y ∈ wlsC nf t p := by
      apply List.count_pos_iff.mp
      omega
    rw [wlsC_map hN ht hp] at hm
    obtain ⟨x, hx, rfl⟩ := List.mem_map.mp hm
    obtain ⟨a1, a2⟩ := mirs_nf hN p hp x hx
    rw [cnt x a1 a2] at hc
    have o1 := od_count hN p hp x a1 (by omega)
    rw [decide_eq_true hc, od_eqv e] at o1
    rw [wlsC_map hN ht hq]
    exact List.mem_map.mpr ⟨x, (mem_mirs hN hq r).mpr ⟨a1, by omega, o1⟩, rfl⟩
/-- the walls of a way depend on the tile alone -/
theorem wlsC_cong (hN : NF m nf) {t t' w : W} (ht : t.length ≤ 60) (ht' : t'.length ≤ 60) (hw : w.length ≤ 60) (e : Eqv m t t') : wlsC nf t w = wlsC nf t' w := by
  unfold wlsC
  refine List.map_congr_left fun k hk => ?_
  refine hN.c _ _ ?_ ?_ ?_
  · simp only [List.length_append, List.length_reverse, List.length_take, List.length_drop]; omega
  · simp only [List.length_append, List.length_reverse, List.length_take, List.length_drop]; omega
  · exact ((e.right _).right _).mul (e.right _).rev
end Cox

/-! Own kit: a def bundled with where it stands, calls of such defs, repr of data, the law's entry with nothing being shown. -/
namespace FK
open PySem PySem.Spec PyProof.Rows L2
section
variable {P : Program} {w : World} {K : PySem.W.Frag} {mg : Str → Option Value} {base : Heap}
/-- the def of the statement st stands under its name -/
def At (K : PySem.W.Frag) (mg : Str → Option Value) (x : Str) (st : Stmt) (ps : List Str) : Prop :=
  ∃ (f : Addr) (fd : FuncData), Fun K x x st f fd ∧ mg x = some (.ref f) ∧ Binds K fd ps []
/-- the def of this name keeps the promise -/
def Has (P : Program) (w : World) (K : PySem.W.Frag) (mg : Str → Option Value) (base : Heap) (CX : CXT) (k : Nat) (x : Str) (ps : List Str) (sp : Sp) : Prop :=
  ∃ (f : Addr) (fd : FuncData), FnOk P w K mg base CX k f fd ps sp ∧ mg x = some (.ref f) ∧ PySem.W.keepIn K (.ref f) = true ∧ Binds K fd ps []
theorem Has.mono {CX : CXT} {j k : Nat} {x : Str} {ps : List Str} {sp : Sp} (h : Has P w K mg base CX j x ps sp) (hk : j ≤ k) : Has P w K mg base CX k x ps sp := by
  obtain ⟨f, fd, h1, h2⟩ := h
  exact ⟨f, fd, h1.mono hk, h2⟩
theorem At.ok {x : Str} {st : Stmt} {N ps : List Str} {k : Nat} {sp : Sp} (D : At K mg x st ps) (S : FnScope N ps (defScope st)) (len : ∀ vs H Q E, sp vs H Q E → vs.length = ps.length)
    (hbody : ∀ (f : Addr) (cdv : Value) (A : Around) (outer : List Env) (s : Shared) (H : Hp) (vs : List V) (Q : VK) (E : XK), Room k (A.deeper (envOfC x (defScope st) s.heap.objs.size f cdv)) → sp vs H Q E →
      ∃ t, PSs (cxOf CX0 P w K mg base N x (defScope st) f cdv A outer s H E).nox (defBody st) t ∧ t { nx := fun _ H' => Q .non H', rt := Q } (start N vs) H) : Has P w K mg base CX0 (k + 1) x ps sp := by
  obtain ⟨f, fd, F, g, b⟩ := D
  exact ⟨f, fd, F.ok S len (hbody f), g, F.kp, b⟩
theorem At.okX {x : Str} {st : Stmt} {N ps : List Str} {k : Nat} {sp : Sp} (D : At K mg x st ps) (S : FnScope N ps (defScope st)) (len : ∀ vs H Q E, sp vs H Q E → vs.length = ps.length)
    (hbody : ∀ (f : Addr) (cdv : Value) (A : Around) (outer : List Env) (s : Shared) (H : Hp) (vs : List V) (Q : VK) (E : XK), Room k (A.deeper (envOfC x (defScope st) s.heap.objs.size f cdv)) → sp vs H Q E →
      ∃ t, PSs (cxOf (L2.CX P w) P w K mg base N x (defScope st) f cdv A outer s H E) (defBody st) t ∧ t { nx := fun _ H' => Q .non H', rt := Q } (start N vs) H) : Has P w K mg base (L2.CX P w) (k + 1) x ps sp := by
  obtain ⟨f, fd, F, g, b⟩ := D
  exact ⟨f, fd, F.okX S len (hbody f), g, F.kp, b⟩
end
/-- what the top says of an own error class (no __init__ of its own) that stands at C -/
structure XC (K : PySem.W.Frag) (mg : Str → Option Value) (x : Str) (C : Addr) : Prop where
  g : mg x = some (.ref C)
  k : PySem.W.keepIn K (.ref C) = true
  x : PySem.W.excIn K C [.type "ValueError", .type "Exception", .type "BaseException", .type "object"] "ValueError.__new__" = true
  b : PySem.W.subIn K (.ref C) (.type "BaseException") = some true
  t : PySem.W.typeIn K (.ref C) = some (.type "type")
  c : PySem.W.isClsIn K C = true
  e : ExcC K C
section
variable {X : Cx} {k : Nat} {x : Str} {ps : List Str} {sp : Sp} {p pos : Pos} {e : Expr} {es : List Expr} {t : TA}
/-- f(e, ..), what f lets out goes to E -/
theorem pe_h {CX : CXT} {E : XK} (h : Has X.prog X.w X.K X.mg X.base CX k x ps sp) (hr : Room k X.A) (hx : Passes CX X E) (ha : PA X (e :: es) t) (hg : Gl X x := by rfl) (hdb : (x == ("__debug__" : Str)) = false := by decide)
    (he : starEach (e :: es) X.env = (false, eval e X.env) :: starEach es X.env := by rfl) (hpl : (backTo pos (starEach es X.env)).any (·.1) = false := by rfl) :
    PE X (.Call (.Name x p) (e :: es) [] pos) (tCall sp [] E t) := by
  obtain ⟨f, fd, F, g, kp, b⟩ := h
  exact pe_call F hr hg g kp b .nil hx ha hdb he hpl
theorem pe_h0 {CX : CXT} {E : XK} (h : Has X.prog X.w X.K X.mg X.base CX k x ps sp) (hr : Room k X.A) (hx : Passes CX X E) (hg : Gl X x := by rfl) (hdb : (x == ("__debug__" : Str)) = false := by decide) :
    PE X (.Call (.Name x p) [] [] pos) (tCall sp [] E tNil) := by
  obtain ⟨f, fd, F, g, kp, b⟩ := h
  exact pe_call0 F hr hg g kp b .nil hx hdb
/-- the same in a try's body: what f lets out is wished for at the slots -/
theorem pe_hS {CX : CXT} {E : L2.St → XK} (h : Has X.prog X.w X.K X.mg X.base CX k x ps sp) (hr : Room k X.A) (hx : ∀ σ, PassesAt CX X σ (E σ)) (ha : PA X (e :: es) t) (hg : Gl X x := by rfl) (hdb : (x == ("__debug__" : Str)) = false := by decide)
    (he : starEach (e :: es) X.env = (false, eval e X.env) :: starEach es X.env := by rfl) (hpl : (backTo pos (starEach es X.env)).any (·.1) = false := by rfl) :
    PE X (.Call (.Name x p) (e :: es) [] pos) (tCallS sp E t) := by
  obtain ⟨f, fd, F, g, kp, b⟩ := h
  exact pe_callS F hr hg g kp b hx ha hdb he hpl
/-- repr(x), x data of any depth, where nothing is being shown -/
def rRepr (K : PySem.W.Frag) : List V → Hp → VK → Prop := fun xs H Q => ∃ (x : V) (d : PyData), xs = [x] ∧ Dp K H x d ∧ d.showable = true ∧ d.hasDict = false ∧ d.depth < 40 ∧ d.shown.length ≤ sizeLine ∧ Q (.str d.shown) H
theorem call_repr (hg : X.A.guards = some []) (hr : Room k X.A) : CallR X (.builtin "repr") (rRepr X.K) := by
  intro pins s σ H xs us Q I r h
  obtain ⟨x, d, rfl, hd, hs, hn, hdp, hz, q⟩ := h
  obtain ⟨u, rfl, rx⟩ := vals1 r
  obtain ⟨as, rd⟩ := Dp.reads I d _ u hd rx
  have hu := hr.units
  cases hd with
  | non =>
    cases rx
    exact PySem.P.repr_of_none ⟨.str _, H, I.tok _, ⟨_, rfl⟩, q⟩
  | bl b =>
    cases rx
    exact PySem.P.repr_of_bool ⟨.str _, H, I.tok _, ⟨_, rfl⟩, q⟩
  | int i =>
    obtain ⟨t, rfl⟩ := rx
    exact PySem.P.repr_of_int (of_decide_eq_true hs) ⟨.str _, H, I.tok _, ⟨_, rfl⟩, q⟩
  | str x =>
    obtain ⟨t, rfl⟩ := rx
    exact PySem.P.repr_of_str ⟨.str _, H, I.tok _, ⟨_, rfl⟩, q⟩ hz
  | lst h1 h2 =>
    cases rx
    exact repr_of_reads' (s := s) rd hs (PyData.noDict_hsm hn) hg (by omega) (fun _ _ e => e) (fun h' u tk hk => ⟨.str _, H, I.kept (t' := tk) hk, ⟨u, rfl⟩, q⟩) hz
  | tup h1 h2 =>
    cases rx
    exact repr_of_reads' (s := s) rd hs (PyData.noDict_hsm hn) hg (by omega) (fun _ _ e => e) (fun h' u tk hk => ⟨.str _, H, I.kept (t' := tk) hk, ⟨u, rfl⟩, q⟩) hz
/-- int(n) of a whole number -/
theorem call_intI : CallR X (.type "int") (fun xs H Q => ∃ i, xs = [.int i] ∧ Q (.int i) H) := fun pins s σ H xs us Q I r h => call_int1 pins s σ H xs us Q I r (.inl h)
/-- xs[i] read for xs[i] -= e, i not negative -/
theorem pget_list : PGet X (fun x y H Q => ∃ p xs i v, x = .ref p ∧ y = .int i ∧ 0 ≤ i ∧ SqL X.K H p xs ∧ atI xs i = some v ∧ Q v H) := by
  intro pins s σ H o i ov iv Q I ro ri h
  obtain ⟨p, xs, k, z, rfl, rfl, h0, hq, he, q⟩ := h
  cases ro
  obtain ⟨t, rfl⟩ := ri
  obtain ⟨its, r, pl, hz⟩ := I.list hq
  obtain ⟨j, h1, h2, h3, h4, h5⟩ := atI_get he
  obtain ⟨w, ew, rw'⟩ := r.get h2
  have hl := r.length
  have hn := line63
  have hj : k.toNat = j := by
    rw [seqIndex_of h0 h5] at h1
    exact Option.some.inj h1
  exact wpAny_getItem_list pl.isList h0 (by omega) (by rw [hj]; simpa using ew) ⟨z, H, I, rw', q⟩
/-- isinstance(e, c) in the suite that holds e, whatever class e has -/
theorem call_isEx {a : Addr} {oe : Obj} {cls : Value} {dd : Option Addr} {pn : List (Addr × Obj)} (hz : Zc cls dd oe) (hf : ∃ vs, oe.data = .fields vs) :
    CallR (X.suite a ((a, oe) :: pn)) (.builtin "isinstance") (fun xs H Q => ∃ D : Addr, cls = .ref D ∧ dd = none ∧ ExcC X.K D ∧ rIsE X.K D a xs H Q) := by
  intro pins s σ H xs us Q I r h
  obtain ⟨D, rfl, rfl, C, q⟩ := h
  exact call_isE C hz hf pins s σ H xs us Q I r q
end
end FK

/-! Own entry of a law: its def run where the caller stands, with nothing being shown. -/
namespace FK
open PySem PySem.Spec PyProof.Rows L2
section
variable {P : Program} {w : World} {K : PySem.W.Frag} {mg : Str → Option Value} {base : Heap}
/-- the law's def, called by the caller: what its body says of every answer -/
theorem run_def {x q : Str} {pr : Arguments} {body : List Stmt} {sc : Scope} {N ps : List Str} {k : Nat} {f : Addr} {A : Around} {s : Shared} {H : Hp} {us : List Value} {vs : List V} {args : Args} {Q : VK} {kV doc pm cdv ct oc : Value} {an od : Option Addr} {osl : Array (Option Value)}
    (lk : K.lookup f = some ⟨oc, od, .func (PySem.W.fnOf x q pr body sc .none kV doc pm an cdv ct), osl⟩) (hc : PySem.W.codeIn K cdv q = true)
    (S : FnScope N ps sc) (hr : Room (k + 1) A) (e0 : Env0 P w K mg base A [] s H) (hv : Vals vs us) (hl : vs.length = ps.length) (hb : BindsTo s (PySem.W.fnOf x q pr body sc .none kV doc pm an cdv ct) args (ps.zip us))
    {t : TS} (hp : PSs (cxOf CX0 P w K mg base N q sc f cdv A [] s H E0).nox body t) (ht : t { nx := fun _ H' => Q .non H', rt := Q } (start N vs) H) :
    codeAny (model P w) A (.call (.ref f) args) (CR CX0 [] P w H s Q E0) s := by
  have up : ∀ {b : Addr} {o : Obj}, base.get? b = some o → s.heap.get? b = some o := fun {b o} e => (e0.bs b o e).1
  have inK : K.In s.heap := e0.mod.kin.keeps fun _ _ e => up e
  refine codeAny_call_function hr.depth (inK _ _ lk) rfl S.co S.gen rfl (PySem.W.codeRec_of inK hc) (hb _ _ _ _ ?_)
  refine wpAny_newFunctionEnv_cells S.kind (fun z hz => ?_) fun env he s1 C => ?_
  · rcases S.par z.1 (List.of_mem_zip (show (z.1, z.2) ∈ ps.zip us from hz)).1 with c | c
    · exact Or.inl c
    · exact Or.inr ⟨c, PySem.W.cellsFrom_some _ _ _ (Or.inl c)⟩
  · cases he
    have nl : s.heap.NoLimit := e0.mod.nolimit.keeps fun _ _ e => up e
    refine ⟨nl.keeps C.toInCall.keep, codeAny_func ?_⟩
    have I := inv_start (CX := CX0) (qual := q) (f := f) (cd := cdv) (E := E0) S hr.hd e0 hl hv C
    refine wpAny_mono (hp.nox.run [] s1 (start N vs) H _ I ht) (fun fl s2 z => ?_) fun _ _ z => z
    cases fl with
    | ret u => obtain ⟨v, _, H2, J, rv, q⟩ := z; exact ⟨v, H2, J.os, J.bare, J.base, J.hok, rv, q⟩
    | next => obtain ⟨_, H2, J, q⟩ := z; exact ⟨.non, H2, J.os, J.bare, J.base, J.hok, rfl, q⟩
    | brk => exact False.elim (let ⟨_, _, _, q⟩ := z; q)
    | cont => exact False.elim (let ⟨_, _, _, q⟩ := z; q)
/-- from the caller's state to an abstract heap in which nothing but the script may stand -/
theorem law_in {mb : Str → Option Value} {fa a : Addr} {s : Shared} {vs : List Value} {ns : List Int} (inK : K.In s.heap) (gl : s.heap.Ns mainGlobals mg) (bl : s.heap.Ns builtinsNs mb) (bb : ∀ z : Str, z ≠ "__name__" → mb z = bootBuiltins z) (nl : s.heap.NoLimit) (gs : s.gens = #[])
    (la : s.heap.get? a = some { cls := .type "list", data := .seq vs.toArray }) (ia : IntsAre vs ns) (le : ns.length ≤ sizeLine)
    (go : ∀ (base : Heap) (H : Hp), Env0 P w K mg base callerA [] s H → SqL K H a (ns.map V.int) → codeAny (model P w) callerA (.call (.ref fa) ⟨[.ref a], []⟩) (CR CX0 [] P w H s (fun v _ => v = .bl true) E0) s) :
    codeAny (model P w) callerA (.call (.ref fa) ⟨[.ref a], []⟩) (fun r s' => r = .ok (.ret (.bool true)) ∧ OldK s.heap s'.heap ∧ s'.os = s.os ∧ AllBare s'.gens) s := by
  have rv : Vals (ns.map V.int) vs := vals_ints ia
  have lv := ia.length
  have lm : (ns.map V.int).length ≤ sizeLine := by rw [List.length_map]; exact le
  -- the abstract heap: the script, locked, if it is no object of the text itself
  obtain ⟨H, hH⟩ : ∃ H : Hp, ∀ b, H b = if b = a ∧ K.lookup a = none then some (HO.frz { cls := .type "list", data := .seq vs.toArray } (.lst (ns.map V.int))) else none := ⟨_, fun _ => rfl⟩
  have Hno : ∀ {b : Addr}, ¬(b = a ∧ K.lookup a = none) → H b = none := fun {b} c => by rw [hH, if_neg c]
  have Hyes : ∀ {b : Addr} {u : HO}, H b = some u → (b = a ∧ K.lookup a = none) ∧ u = .frz { cls := .type "list", data := .seq vs.toArray } (.lst (ns.map V.int)) := fun {b u} e => by
    rw [hH] at e
    by_cases c : b = a ∧ K.lookup a = none
    · rw [if_pos c] at e; cases e; exact ⟨c, rfl⟩
    · rw [if_neg c] at e; cases e
  have sq : SqL K H a (ns.map V.int) := by
    cases c : K.lookup a with
    | none => exact .inl (.inr ⟨_, by rw [hH, if_pos ⟨rfl, c⟩]⟩)
    | some o =>
      have e := (inK a o c).symm.trans la
      cases e
      exact .inr ⟨_, vs.toArray, _, c, rfl, rfl, rfl, by rw [List.size_toArray, lv]; exact le, by simpa using rv⟩
  have kept : ∀ {b : Addr} {o : Obj}, s.heap.get? b = some o → H b = none → (hidT s.heap H).get? b = some o := fun e n => hidT_get e n
  have ok : HOk P w H s.heap := fun b u e => by
    obtain ⟨⟨rfl, _⟩, rfl⟩ := Hyes e
    exact ⟨la, lm, vs, _, rv, la⟩
  have dk : ∀ {b : Addr} {o : Obj} {es : Array DictEntry} {n : Nat}, s.heap.get? b = some o → o.data = .dict es n → H b = none := fun {b o es n} e d => by
    refine Hno fun c => ?_
    rw [c.1, la] at e
    cases e
    exact nomatch d
  have nsk : ∀ {b : Addr} {m : Str → Option Value}, s.heap.Ns b m → (hidT s.heap H).Ns b m := fun {b m} z => by
    obtain ⟨o, es, n, e, d, r⟩ := z
    exact ⟨o, es, n, kept e (dk e d), d, r⟩
  have kb : K.In (hidT s.heap H) := fun b o e => kept (inK b o e) (Hno fun c => by rw [c.1, c.2] at e; cases e)
  have M : Mod K mg (hidT s.heap H) := ⟨kb, nsk gl, ⟨mb, nsk bl, bb⟩, by obtain ⟨mc, h1, h2⟩ := nl; exact ⟨mc, nsk h1, h2⟩⟩
  have e0 : Env0 P w K mg (hidT s.heap H) callerA [] s H := ⟨rfl, M, fun _ _ e => of_hidT e, Nat.le_of_eq (hidT_size _ _), trivial, fun b hb => absurd (show b ∈ ([] : List Addr) from hb) List.not_mem_nil, ok, .of_eq gs⟩
  refine codeAny_mono (go _ H e0 sq) fun r s' z => ?_
  match r, z with
  | .error _, z => exact False.elim z
  | .ok .next, z => exact False.elim z
  | .ok .brk, z => exact False.elim z
  | .ok .cont, z => exact False.elim z
  | .ok (.ret u), z =>
    obtain ⟨v, H', os, bare, un, ok', rv', ev⟩ := z
    cases (show v = .bl true from ev)
    cases (show u = Value.bool true from rv')
    refine ⟨rfl, OldK.of_keep fun b o e => ?_, os, bare⟩
    cases c : H b with
    | none => exact un.keep b o e c (fun z => absurd (show b ∈ ([] : List Addr) from z) List.not_mem_nil) List.not_mem_nil
    | some u =>
      obtain ⟨_, rfl⟩ := Hyes c
      have g1 := (ok b _ c).1
      have g2 := (ok' b _ (un.frzs b _ _ c)).1
      exact g2.trans (g1.symm.trans e)
/-- a bundled def, called by the caller -/
theorem At.run {x : Str} {st : Stmt} {N ps : List Str} {k : Nat} {fa : Addr} {s : Shared} {H : Hp} {us : List Value} {vs : List V} {Q : VK} (D : At K mg x st ps) (g : mg x = some (.ref fa)) (S : FnScope N ps (defScope st)) (hr : Room (k + 1) callerA)
    (e0 : Env0 P w K mg base callerA [] s H) (hv : Vals vs us) (hl : vs.length = ps.length)
    (go : ∀ (cdv : Value), Room k (callerA.deeper (envOfC x (defScope st) s.heap.objs.size fa cdv)) → (callerA.deeper (envOfC x (defScope st) s.heap.objs.size fa cdv)).guards = some [] →
      ∃ t, PSs (cxOf CX0 P w K mg base N x (defScope st) fa cdv callerA [] s H E0).nox (defBody st) t ∧ t { nx := fun _ H' => Q .non H', rt := Q } (start N vs) H) :
    codeAny (model P w) callerA (.call (.ref fa) ⟨us, []⟩) (CR CX0 [] P w H s Q E0) s := by
  obtain ⟨f, fd, F, g', b⟩ := D
  cases g.symm.trans g'
  obtain ⟨oc, od, kV, doc, pm, an, cdv, ct, osl, rfl, lk, hc⟩ := F.ex
  have inK : K.In s.heap := e0.mod.kin.keeps fun b o e => (e0.bs b o e).1
  have hlu : us.length = ps.length := by rw [← hv.length]; exact hl
  have hb := b s us inK (by rw [List.append_nil]; exact hlu)
  rw [List.append_nil] at hb
  obtain ⟨t, h1, h2⟩ := go cdv (hr.deeper _) rfl
  exact run_def lk hc S hr e0 hv hl hb h1 h2
end
/-- the end of a law row -/
theorem walk_law {l : PySem.W.OpenLaw} {n : Nat} {q : Program} {loose : List Str} {XP : (Str → Option Value) → Heap → Prop} {YP : World → Heap → Prop} {d : DefRec} {K : Params → PySem.W.Frag}
    (hn : l.most = some n) (hn2 : n ≤ sizeLine) (hdf : d.params.defaults = []) (hY : ∀ (w : World) (h : Heap), YP w h → (K w.params).In h)
    (F : ∀ (w : World) (mg : Str → Option Value) (fa : Addr) (h : Heap), (K w.params).In h → h.Ns mainGlobals mg → mg d.name = some (.ref fa) →
      ∀ (base : Heap) (s : Shared) (H : Hp) (a : Addr) (ns : List Int), ns.length ≤ n → (∀ z ∈ ns, Builtin.Int.intBits z ≤ 1048576) → Env0 l.prog w (K w.params) mg base callerA [] s H → SqL (K w.params) H a (ns.map V.int) →
        codeAny (model l.prog w) callerA (.call (.ref fa) ⟨[.ref a], []⟩) (CR CX0 [] l.prog w H s (fun v _ => v = .bl true) E0) s) :
    PySem.W.WalkO q loose XP YP l.row.toRowW d [] (fun f vs => PySem.call f vs) := by
  refine Att.attach_callB hn hdf fun w s0 s mg mb fa o pm cd doc a vs ns G Y ho hd hcd hmg la ia hl hbits gs => ?_
  have inK := hY w _ Y
  exact law_in inK G.T.g G.T.b G.T.builtins G.T.nolimit gs la ia (Nat.le_trans hl hn2) fun base H e0 sq => F w mg fa _ inK G.T.g hmg base s H a ns hl hbits e0 sq
section
variable {K : PySem.W.Frag} {mg : Str → Option Value} {h : Heap}
theorem at_mk {x : Str} {st : Stmt} {ps : List Str} {f : Addr} {oc : Value} {od an : Option Addr} {osl : Array (Option Value)} {kV doc pm cdv ct : Value} (inK : K.In h) (G : h.Ns mainGlobals mg) (a : PySem.W.nsIn K mainGlobals x = some (some (.ref f)))
    (l : K.lookup f = some ⟨oc, od, .func (PySem.W.fnOf x x (defArgs st) (defBody st) (defScope st) .none kV doc pm an cdv ct), osl⟩) (c : PySem.W.codeIn K cdv x = true) (k : PySem.W.keepIn K (.ref f) = true)
    (b : ∀ (kV doc pm : Value) (an : Option Addr) (cdv ct : Value) (us : List Value), us.length = ps.length → bindArgs (PySem.W.fnOf x x (defArgs st) (defBody st) (defScope st) .none kV doc pm an cdv ct) ⟨us, []⟩ = pure (ps.zip us)) : At K mg x st ps :=
  ⟨f, _, fun_mk l c k, PySem.W.mg_of inK G a, (fun_mk l c k).binds b⟩
theorem xc_mk {x : Str} {C : Addr} (inK : K.In h) (G : h.Ns mainGlobals mg) (g : PySem.W.nsIn K mainGlobals x = some (some (.ref C))) (k : PySem.W.keepIn K (.ref C) = true)
    (q : PySem.W.excIn K C [.type "ValueError", .type "Exception", .type "BaseException", .type "object"] "ValueError.__new__" = true) (b : PySem.W.subIn K (.ref C) (.type "BaseException") = some true) (t : PySem.W.typeIn K (.ref C) = some (.type "type")) (c : PySem.W.isClsIn K C = true)
    (e1 : PySem.W.findIn K (.ref C) "__getattribute__" = some (some (.builtin "BaseException.__getattribute__"))) (e2 : PySem.W.findIn K (.ref C) "__getattr__" = some none) (e4 : PySem.W.hasDictIn K C = true) (e5 : PySem.W.findIn K (.ref C) "__class__" = some (some (.builtin "object.__class__")))
    (e6 : PySem.W.specialIn K (.builtin "object.__class__") "__get__" = some (some (.builtin "getset_descriptor.__get__"))) (e7 : PySem.W.takesIn K (.builtin "object.__class__") = some true) (e8 : PySem.W.mroIn K C (.type "object") = some true) : XC K mg x C :=
  ⟨PySem.W.mg_of inK G g, k, q, b, t, c, ⟨e1, e2, b, e4, e5, e6, e7, e8⟩⟩
theorem tup_mk {a : Addr} {items : Array Value} {dd : Option Addr} {n : Nat} {sl : Array (Option Value)} (l : K.lookup a = some ⟨.type "tuple", dd, .seq items n, sl⟩) : ∃ (dd : Option Addr) (n : Nat) (sl : Array (Option Value)), K.lookup a = some ⟨.type "tuple", dd, .seq items n, sl⟩ := ⟨_, _, _, l⟩
theorem tup2s_mk {a : Addr} {x y : Str} {t1 t2 : Tok} {dd : Option Addr} {n : Nat} {sl : Array (Option Value)} (l : K.lookup a = some ⟨.type "tuple", dd, .seq #[.str x t1, .str y t2] n, sl⟩) : ∃ (dd : Option Addr) (n : Nat) (sl : Array (Option Value)) (t1 t2 : Tok), K.lookup a = some ⟨.type "tuple", dd, .seq #[.str x t1, .str y t2] n, sl⟩ := ⟨_, _, _, _, _, l⟩
theorem kit_mk {D C : Addr} {b : Bool} (n : (Value.ref D == Value.ref C) = false) (c : PySem.W.isClsIn K C = true) (t : PySem.W.typeIn K (.ref C) = some (.type "type")) (s : PySem.W.subIn K (.ref D) (.ref C) = some b) : PySem.W.kitOne K (.ref D) (.ref C) = some b := by
  have e : ((PySem.W.clsIn K C).isSome && PySem.W.typeIn K (.ref C) == some (.type "type")) = true := by
    have c' : (PySem.W.clsIn K C).isSome = true := c
    rw [c', t] <;> rfl
  show (if (Value.ref D == Value.ref C) = true then some true else (if ((PySem.W.clsIn K C).isSome && PySem.W.typeIn K (.ref C) == some (.type "type")) = true then PySem.W.subIn K (.ref D) (.ref C) else none)) = some b
  rw [if_neg (by rw [n]; exact Bool.false_ne_true), if_pos e]
  exact s
theorem kit_same {K : PySem.W.Frag} {D : Addr} : PySem.W.kitOne K (.ref D) (.ref D) = some true := by
  show (if (Value.ref D == Value.ref D) = true then some true else _) = some true
  rw [if_pos (beq_self_eq_true _)]
end
end FK

/-! Own readings: loops and comprehensions over a walk, what stands in the heap behind them. -/
namespace FK
open PySem PySem.Spec PyProof.Rows L2
/-- all but what stands at d is as it was -/
def But (d : Addr) (H H' : Hp) : Prop := ∀ b o, b ≠ d → H b = some o → H' b = some o
theorem But.refl {d : Addr} {H : Hp} : But d H H := fun _ _ _ h => h
theorem But.trans {d : Addr} {H H1 H2 : Hp} (a : But d H H1) (b : But d H1 H2) : But d H H2 := fun c o n h => b c o n (a c o n h)
theorem But.of {d : Addr} {H H' : Hp} (a : Same H H') : But d H H' := fun c o _ h => a c o h
theorem But.upd {d : Addr} {H : Hp} {o : HO} : But d H (upd H d o) := fun c u n h => by rw [upd_ne n]; exact h
theorem same_new {H : Hp} {p : Addr} {o : HO} (h : H p = none) : Same H (upd H p o) := fun b u e => by
  have n : b ≠ p := fun z => by rw [z, h] at e; cases e
  rw [upd_ne n]
  exact e
theorem Same.tupS {K : PySem.W.Frag} {H H' : Hp} {a : Addr} {xs : List V} (e : Same H H') (h : SqT K H a xs) : SqT K H' a xs := by
  rcases h with (h | ⟨o, h⟩) | h
  · exact .inl (.inl (e _ _ h))
  · exact .inl (.inr ⟨o, e _ _ h⟩)
  · exact .inr h
/-- a for over a walk, what is walked told by hw -/
theorem rd_for {wi : TI} {g : TG} {tb : TS} {D : Ends} {σ : L2.St} {H H1 : Hp} {J : It} {n : Nat} {G : Hp → Prop} {Y : Nat → Hp → V → Hp → Prop} (hw : ∀ R : It → Hp → Prop, R J H1 → wi σ H R) (w : Walk J n G Y) (Pv : Nat → L2.St → Hp → Prop)
    (h0 : Pv 0 σ H1) (hG : ∀ i σ H, i ≤ n → Pv i σ H → G H)
    (hs : ∀ i x σ H H', i < n → Pv i σ H → Y i H x H' → g x σ H' fun σ2 H2 => tb { D with nx := Pv (i + 1), ct := Pv (i + 1), bk := D.nx } σ2 H2) (hd : ∀ σ H, Pv n σ H → D.nx σ H) : tFor wi g tb D σ H :=
  hw _ (for_it w Pv h0 hG hs hd)
/-- a comprehension over a walk, one plain name, no test: Pv by the turn, the items made and the heap; the new list stands at D, told apart -/
theorem rd_lc {wi : TI} {i : Nat} {te : TE} {vs : List Nat} {σ : L2.St} {H H1 : Hp} {J : It} {n : Nat} {G : Hp → Prop} {Y : Nat → Hp → V → Hp → Prop} {Q : VK} (hw : ∀ R : It → Hp → Prop, R J H1 → wi σ H R) (w : Walk J n G Y)
    (Pv : Nat → List V → Hp → Prop) (h0 : ∀ D, H1 D = none → Pv 0 [] (upd H1 D (.lst [])))
    (hk : ∀ D i acc y H, H1 D = none → H D = some (.lst acc) → Pv i (acc ++ [y]) H → Pv i (acc ++ [y]) (upd H D (.lst (acc ++ [y]))))
    (hG : ∀ i acc H, i ≤ n → Pv i acc H → G H) (hl : n < sizeLine)
    (hv : ∀ x, wipe ((wipe σ vs).set i (some x)) vs = wipe σ vs)
    (hs : ∀ D j x acc H H' (R : VK), H1 D = none → j < n → acc.length = j → Pv j acc H → H D = some (.lst acc) → Y j H x H' →
      (∀ y H4, H4 D = some (.lst acc) → Pv (j + 1) (acc ++ [y]) H4 → R y H4) → te ((wipe σ vs).set i (some x)) H' R)
    (hd : ∀ D acc H, H1 D = none → acc.length = n → Pv n acc H → H D = some (.lst acc) → Q (.ref D) H) : tLc wi (gName i) tYes te vs σ H Q := by
  refine hw _ fun D hD => ?_
  refine lc_it w (fun j H => ∃ acc, acc.length = j ∧ H D = some (.lst acc) ∧ Pv j acc H) ⟨[], rfl, upd_same, h0 D hD⟩ (fun j H hj ⟨acc, _, _, p⟩ => hG j acc H hj p) ?_ ?_
  · intro j x H' H'' hj ⟨acc, ha, hD2, p⟩ y
    refine ⟨hv x, ?_⟩
    simp only [tYes, if_true]
    refine hs D j x acc H' H'' _ hD hj ha p hD2 y fun y' H4 z1 z2 => ?_
    exact ⟨acc, z1, by omega, acc ++ [y'], by rw [List.length_append, ha]; rfl, upd_same, hk D _ acc y' H4 hD z1 z2⟩
  · intro H' ⟨acc, ha, hD2, p⟩
    exact hd D acc H' hD ha p hD2
/-- a comprehension whose items touch nothing: the list zs is made at a new place -/
theorem rd_lc_pure {wi : TI} {i : Nat} {te : TE} {vs : List Nat} {σ : L2.St} {H H1 : Hp} {J : It} {G : Hp → Prop} {Y : Nat → Hp → V → Hp → Prop} {Q : VK} (zs : List V) (hw : ∀ R : It → Hp → Prop, R J H1 → wi σ H R) (w : Walk J zs.length G Y)
    (hG : ∀ D o, H1 D = none → G (upd H1 D o)) (hl : zs.length < sizeLine) (hv : ∀ x, wipe ((wipe σ vs).set i (some x)) vs = wipe σ vs)
    (hs : ∀ D j x z H' H'' (R : VK), H1 D = none → zs[j]? = some z → H' = upd H1 D (.lst (zs.take j)) → Y j H' x H'' → R z H'' → te ((wipe σ vs).set i (some x)) H'' R)
    (hd : ∀ D, H1 D = none → Q (.ref D) (upd H1 D (.lst zs))) (hY : ∀ j H' x H'', Y j H' x H'' → H'' = H') : tLc wi (gName i) tYes te vs σ H Q := by
  have one : ∀ {D D2 : Addr} {o : HO} {u : HO}, H1 D = none → upd H1 D2 o D = some u → D = D2 := fun {D D2 o u} h1 h2 => by
    by_cases c : D = D2
    · exact c
    · rw [upd_ne c, h1] at h2; cases h2
  refine rd_lc hw w (fun j acc H' => ∃ D acc0, H1 D = none ∧ H' = upd H1 D (.lst acc0) ∧ acc = zs.take j) (fun D hD => ⟨D, [], hD, rfl, by simp⟩) ?_ ?_ hl hv ?_ ?_
  · rintro D j acc y H' hD hD2 ⟨D2, acc0, hD3, rfl, e⟩
    have e2 := one hD hD2
    subst e2
    exact ⟨D, _, hD, upd_upd, e⟩
  · rintro j acc H' _ ⟨D, acc0, hD, rfl, _⟩
    exact hG D _ hD
  · rintro D j x acc H' H'' R hD hj ha ⟨D2, acc0, hD3, rfl, rfl⟩ hD2 y go
    have e2 := one hD hD2
    subst e2
    rw [upd_same] at hD2
    cases hD2
    have e3 := hY _ _ _ _ y
    subst e3
    refine hs D j x zs[j] _ _ R hD (List.getElem?_eq_getElem hj) rfl y ?_
    exact go zs[j] _ upd_same ⟨D, _, hD, rfl, by rw [List.take_add_one, List.getElem?_eq_getElem hj]; rfl⟩
  · rintro D acc H' hD ha ⟨D2, acc0, hD3, rfl, rfl⟩ hD2
    have e2 := one hD hD2
    subst e2
    rw [upd_same] at hD2
    cases hD2
    rw [List.take_length]
    exact hd D hD
theorem same_at {H H' : Hp} {p : Addr} {o : HO} (h : H p = none) (s : Same H H') : Same H (upd H' p o) := fun b u e => by
  have n : b ≠ p := fun z => by rw [z, h] at e; cases e
  rw [upd_ne n]
  exact s b u e
/-- a comprehension whose items only lay new things: the list zs is made -/
theorem rd_lc_same {wi : TI} {i : Nat} {te : TE} {vs : List Nat} {σ : L2.St} {H H1 : Hp} {J : It} {G : Hp → Prop} {Y : Nat → Hp → V → Hp → Prop} {Q : VK} (zs : List V) (hw : ∀ R : It → Hp → Prop, R J H1 → wi σ H R) (w : Walk J zs.length G Y)
    (hG : ∀ H', Same H1 H' → G H') (hl : zs.length < sizeLine) (hv : ∀ x, wipe ((wipe σ vs).set i (some x)) vs = wipe σ vs)
    (hs : ∀ j x z H' H'' (R : VK), zs[j]? = some z → Same H1 H' → Y j H' x H'' → (∀ H4, Same H'' H4 → R z H4) → te ((wipe σ vs).set i (some x)) H'' R)
    (hd : ∀ D H', H1 D = none → Same H1 H' → H' D = some (.lst zs) → Q (.ref D) H') (hY : ∀ j H' x H'', Y j H' x H'' → Same H' H'') : tLc wi (gName i) tYes te vs σ H Q := by
  refine rd_lc hw w (fun j acc H' => Same H1 H' ∧ acc = zs.take j) (fun D hD => ⟨same_new hD, by simp⟩) ?_ ?_ hl hv ?_ ?_
  · rintro D j acc y H' hD hD2 ⟨s, e⟩
    exact ⟨same_at hD s, e⟩
  · rintro j acc H' _ ⟨s, _⟩
    exact hG _ s
  · rintro D j x acc H' H'' R hD hj ha ⟨s, rfl⟩ hD2 y go
    refine hs j x zs[j] _ _ R (List.getElem?_eq_getElem hj) s y fun H4 s4 => ?_
    have s5 := (hY _ _ _ _ y).trans s4
    exact go zs[j] _ (s5 _ _ hD2) ⟨s.trans s5, by rw [List.take_add_one, List.getElem?_eq_getElem hj]; rfl⟩
  · rintro D acc H' hD ha ⟨s, rfl⟩ hD2
    rw [List.take_length] at hD2
    exact hd D H' hD s hD2
/-- a comprehension with a test whose items touch nothing -/
theorem rd_lc_filter {wi : TI} {i : Nat} {tt : TT} {te : TE} {vs : List Nat} {σ : L2.St} {H H1 : Hp} {J : It} {G : Hp → Prop} {Q : VK} (xs : List V) (p : V → Bool) (f : V → V) (hw : ∀ R : It → Hp → Prop, R J H1 → wi σ H R) (w : Walk J xs.length G (YAt xs))
    (hG : ∀ D o, H1 D = none → G (upd H1 D o)) (hl : xs.length < sizeLine) (hv : ∀ x, wipe ((wipe σ vs).set i (some x)) vs = wipe σ vs)
    (ht : ∀ x H' (R : Bool → Hp → Prop), x ∈ xs → R (p x) H' → tt ((wipe σ vs).set i (some x)) H' R)
    (hs : ∀ x H' (R : VK), x ∈ xs → p x = true → R (f x) H' → te ((wipe σ vs).set i (some x)) H' R)
    (hd : ∀ D, H1 D = none → Q (.ref D) (upd H1 D (.lst ((xs.filter p).map f)))) : tLc wi (gName i) tt te vs σ H Q := by
  refine hw _ fun D hD => ?_
  refine lc_it w (fun j H' => H' = upd H1 D (.lst (((xs.take j).filter p).map f))) (by simp) (fun j H' hj e => by rw [e]; exact hG D _ hD) ?_ ?_
  · rintro j x H' H'' hj rfl ⟨rfl, hx⟩
    have hm : x ∈ xs := List.mem_of_getElem? hx
    have et : xs.take (j + 1) = xs.take j ++ [x] := by rw [List.take_add_one, hx]; rfl
    refine ⟨hv x, ht x _ _ hm ?_⟩
    cases e : p x with
    | true =>
      refine iteT (hs x _ _ hm e ⟨_, upd_same, ?_, ?_⟩)
      · rw [List.length_map]
        exact Nat.lt_of_le_of_lt (Nat.le_trans (List.length_filter_le _ _) (by rw [List.length_take]; exact Nat.min_le_right _ _)) hl
      · rw [upd_upd, et, List.filter_append, List.map_append]
        simp [e]
    | false =>
      refine iteF ?_
      rw [et, List.filter_append]
      simp [e]
  · rintro H' rfl
    rw [List.take_length]
    exact hd D hD
end FK

/-! Own kit: methods of own classes bundled with where they stand, calls of them, instances made. -/
namespace FK
open PySem PySem.Spec PyProof.Rows L2
section
variable {P : Program} {w : World} {K : PySem.W.Frag} {mg : Str → Option Value} {base : Heap}
/-- the method m (with its full name q) of the class at C is the def of the statement st -/
def MAt (K : PySem.W.Frag) (C : Addr) (m q : Str) (st : Stmt) (ps : List Str) : Prop :=
  ∃ (f : Addr) (fd : FuncData), Fun K m q st f fd ∧ Meth K C m f ∧ Binds K fd ps []
/-- the same of __init__ -/
def IAt (K : PySem.W.Frag) (C : Addr) (q : Str) (st : Stmt) (ps : List Str) : Prop :=
  ∃ (f : Addr) (fd : FuncData), Fun K "__init__" q st f fd ∧ Mk K C f ∧ Binds K fd ps []
def MHas (P : Program) (w : World) (K : PySem.W.Frag) (mg : Str → Option Value) (base : Heap) (CX : CXT) (k : Nat) (C : Addr) (m : Str) (ps : List Str) (sp : Sp) : Prop :=
  ∃ (f : Addr) (fd : FuncData), FnOk P w K mg base CX k f fd ps sp ∧ Meth K C m f ∧ Binds K fd ps []
def IHas (P : Program) (w : World) (K : PySem.W.Frag) (mg : Str → Option Value) (base : Heap) (CX : CXT) (k : Nat) (C : Addr) (ps : List Str) (sp : Sp) : Prop :=
  ∃ (f : Addr) (fd : FuncData), FnOk P w K mg base CX k f fd ps sp ∧ Mk K C f ∧ Binds K fd ps []
theorem MHas.mono {CX : CXT} {j k : Nat} {C : Addr} {m : Str} {ps : List Str} {sp : Sp} (h : MHas P w K mg base CX j C m ps sp) (hk : j ≤ k) : MHas P w K mg base CX k C m ps sp := by
  obtain ⟨f, fd, h1, h2⟩ := h
  exact ⟨f, fd, h1.mono hk, h2⟩
theorem MAt.ok {C : Addr} {m q : Str} {st : Stmt} {N ps : List Str} {k : Nat} {sp : Sp} (D : MAt K C m q st ps) (S : FnScope N ps (defScope st)) (len : ∀ vs H Q E, sp vs H Q E → vs.length = ps.length)
    (hbody : ∀ (f : Addr) (cdv : Value) (A : Around) (outer : List Env) (s : Shared) (H : Hp) (vs : List V) (Q : VK) (E : XK), Room k (A.deeper (envOfC q (defScope st) s.heap.objs.size f cdv)) → sp vs H Q E →
      ∃ t, PSs (cxOf CX0 P w K mg base N q (defScope st) f cdv A outer s H E).nox (defBody st) t ∧ t { nx := fun _ H' => Q .non H', rt := Q } (start N vs) H) : MHas P w K mg base CX0 (k + 1) C m ps sp := by
  obtain ⟨f, fd, F, g, b⟩ := D
  exact ⟨f, fd, F.ok S len (hbody f), g, b⟩
theorem MAt.okX {C : Addr} {m q : Str} {st : Stmt} {N ps : List Str} {k : Nat} {sp : Sp} (D : MAt K C m q st ps) (S : FnScope N ps (defScope st)) (len : ∀ vs H Q E, sp vs H Q E → vs.length = ps.length)
    (hbody : ∀ (f : Addr) (cdv : Value) (A : Around) (outer : List Env) (s : Shared) (H : Hp) (vs : List V) (Q : VK) (E : XK), Room k (A.deeper (envOfC q (defScope st) s.heap.objs.size f cdv)) → sp vs H Q E →
      ∃ t, PSs (cxOf (L2.CX P w) P w K mg base N q (defScope st) f cdv A outer s H E) (defBody st) t ∧ t { nx := fun _ H' => Q .non H', rt := Q } (start N vs) H) : MHas P w K mg base (L2.CX P w) (k + 1) C m ps sp := by
  obtain ⟨f, fd, F, g, b⟩ := D
  exact ⟨f, fd, F.okX S len (hbody f), g, b⟩
theorem IAt.ok {C : Addr} {q : Str} {st : Stmt} {N ps : List Str} {k : Nat} {sp : Sp} (D : IAt K C q st ps) (S : FnScope N ps (defScope st)) (len : ∀ vs H Q E, sp vs H Q E → vs.length = ps.length)
    (hbody : ∀ (f : Addr) (cdv : Value) (A : Around) (outer : List Env) (s : Shared) (H : Hp) (vs : List V) (Q : VK) (E : XK), Room k (A.deeper (envOfC q (defScope st) s.heap.objs.size f cdv)) → sp vs H Q E →
      ∃ t, PSs (cxOf CX0 P w K mg base N q (defScope st) f cdv A outer s H E).nox (defBody st) t ∧ t { nx := fun _ H' => Q .non H', rt := Q } (start N vs) H) : IHas P w K mg base CX0 (k + 1) C ps sp := by
  obtain ⟨f, fd, F, g, b⟩ := D
  exact ⟨f, fd, F.ok S len (hbody f), g, b⟩
end
section
variable {X : Cx} {k : Nat} {x m : Str} {C : Addr} {ps : List Str} {sp : Sp} {p pos apos : Pos} {o e : Expr} {es : List Expr} {t : TA} {ta : TE}
/-- o.m(e, ..) -/
theorem pe_m {CX : CXT} {E : XK} {pl : Sem Bool} (he : PE X o ta) (c : Cls X.K C) (h : MHas X.prog X.w X.K X.mg X.base CX k C m ps sp) (hr : Room k X.A) (hx : Passes CX X E) (ha : PA X (e :: es) t)
    (hst : starEach (e :: es) X.env = (false, eval e X.env) :: starEach es X.env := by rfl) (hpl : (backTo pos (starEach es X.env)).any (·.1) = false := by rfl)
    (ht : eval (.Call (.Attribute o m apos) (e :: es) [] pos) X.env = (do
      let ov ← eval o X.env
      standAt apos.atName
      let (f, first) ← holding [ov] (getMethod ov m pl)
      callWith pos f first (backTo pos (starEach (e :: es) X.env)) (backToKw pos (keywordEach [] X.env))) := by rfl) :
    PE X (.Call (.Attribute o m apos) (e :: es) [] pos) (tMeth C m sp [] E ta t) := by
  obtain ⟨f, fd, F, g, b⟩ := h
  exact pe_meth he c g F hr b .nil hx ha hst hpl ht
theorem pe_m0 {CX : CXT} {E : XK} {pl : Sem Bool} (he : PE X o ta) (c : Cls X.K C) (h : MHas X.prog X.w X.K X.mg X.base CX k C m ps sp) (hr : Room k X.A) (hx : Passes CX X E)
    (ht : eval (.Call (.Attribute o m apos) [] [] pos) X.env = (do
      let ov ← eval o X.env
      standAt apos.atName
      let (f, first) ← holding [ov] (getMethod ov m pl)
      callWith pos f first (backTo pos (starEach [] X.env)) (backToKw pos (keywordEach [] X.env))) := by rfl) :
    PE X (.Call (.Attribute o m apos) [] [] pos) (tMeth C m sp [] E ta tNil) := by
  obtain ⟨f, fd, F, g, b⟩ := h
  exact pe_meth0 he c g F hr b .nil hx ht
/-- C(e, ..) -/
theorem pe_i {CX : CXT} {E : XK} (h : IHas X.prog X.w X.K X.mg X.base CX k C ps sp) (hr : Room (k + 1) X.A) (hm : X.mg x = some (.ref C)) (hx : Passes CX X E) (ha : PA X (e :: es) t) (hg : Gl X x := by rfl)
    (hdb : (x == ("__debug__" : Str)) = false := by decide) (he : starEach (e :: es) X.env = (false, eval e X.env) :: starEach es X.env := by rfl) (hpl : (backTo pos (starEach es X.env)).any (·.1) = false := by rfl) :
    PE X (.Call (.Name x p) (e :: es) [] pos) (tMake C sp [] E t) := by
  obtain ⟨f, fd, F, M, b⟩ := h
  exact pe_make M F hr hg hm b .nil hx ha hdb he hpl
end
section
variable {K : PySem.W.Frag} {mg : Str → Option Value} {h : Heap}
theorem mat_mk {C : Addr} {m q : Str} {st : Stmt} {ps : List Str} {f : Addr} {oc : Value} {od an : Option Addr} {osl : Array (Option Value)} {kV doc pm cdv ct : Value}
    (a : PySem.W.findIn K (.ref C) m = some (some (.ref f))) (i : PySem.W.isFn K (.ref f) = true)
    (l : K.lookup f = some ⟨oc, od, .func (PySem.W.fnOf m q (defArgs st) (defBody st) (defScope st) .none kV doc pm an cdv ct), osl⟩) (c : PySem.W.codeIn K cdv q = true) (k : PySem.W.keepIn K (.ref f) = true)
    (b : ∀ (kV doc pm : Value) (an : Option Addr) (cdv ct : Value) (us : List Value), us.length = ps.length → bindArgs (PySem.W.fnOf m q (defArgs st) (defBody st) (defScope st) .none kV doc pm an cdv ct) ⟨us, []⟩ = pure (ps.zip us)) : MAt K C m q st ps :=
  ⟨f, _, fun_mk (st := st) l c k, ⟨a, i, k⟩, Binds.all fun us hl => b _ _ _ _ _ _ us hl⟩
theorem noattr_mk {C : Addr} {f : Str} (h : PySem.W.findIn K (.ref C) f = some none) : NoAttr K C f := h
theorem iat_mk {C : Addr} {q : Str} {st : Stmt} {ps : List Str} {f : Addr} {oc : Value} {od an : Option Addr} {osl : Array (Option Value)} {kV doc pm cdv ct : Value}
    (mk : PySem.W.makesIn K C = true) (a : PySem.W.findIn K (.ref C) "__init__" = some (some (.ref f))) (i : PySem.W.isFn K (.ref f) = true) (kc : PySem.W.keepIn K (.ref C) = true)
    (l : K.lookup f = some ⟨oc, od, .func (PySem.W.fnOf "__init__" q (defArgs st) (defBody st) (defScope st) .none kV doc pm an cdv ct), osl⟩) (c : PySem.W.codeIn K cdv q = true) (k : PySem.W.keepIn K (.ref f) = true)
    (b : ∀ (kV doc pm : Value) (an : Option Addr) (cdv ct : Value) (us : List Value), us.length = ps.length → bindArgs (PySem.W.fnOf "__init__" q (defArgs st) (defBody st) (defScope st) .none kV doc pm an cdv ct) ⟨us, []⟩ = pure (ps.zip us)) : IAt K C q st ps :=
  ⟨f, _, fun_mk (st := st) l c k, ⟨mk, a, i, kc⟩, Binds.all fun us hl => b _ _ _ _ _ _ us hl⟩
end
end FK

/-! Own rules: a text backwards, the least text of a list, zip of a text and a tuple. -/
namespace FK
open PySem PySem.Spec PyProof.Rows L2
/-! ### z[::-1], z a text -/
def revS (z : Str) : Str := ⟨z.cps.toList.reverse.toArray⟩
def tRevS (te : TE) : TE := fun σ H Q => te σ H fun x H1 => ∃ z, x = .str z ∧ z.length ≤ sizeLine ∧ Q (.str (revS z)) H1
theorem revS_pick (z : Str) : (⟨((Builtin.Str.strSliceIndices none none (-1) z.length).filterMap (z.cps[·]?)).toArray⟩ : Str) = revS z := by
  have e : Builtin.Str.strSliceIndices none none (-1) z.length = (List.range z.cps.size).reverse := by
    show sliceRange ((z.length : Int) - 1) (-1) (-1) = _
    rw [PySem.W.krv_sliceRange, PySem.W.krv_range]
    rfl
  rw [e, List.filterMap_reverse, PySem.W.krv_all]
  rfl
theorem pe_revS {X : Cx} {e : Expr} {te : TE} {k : Nat} {p1 p2 p3 pos : Pos} (he : PE X e te) : PE X (.Subscript e (.Slice none none (some (.UnaryOp .USub (.Constant (.int 1) k p1) p2)) p3) pos) (tRevS te) := by
  refine ⟨fun pins s σ H Q I h => ?_⟩
  refine Subscript_ (thn (he.run pins s σ H _ I h) fun v s1 ⟨x, H1, I1, r1, q1⟩ => ?_)
  obtain ⟨z, ex, hz, q⟩ := q1
  subst ex
  obtain ⟨tz, rfl⟩ := r1
  have hst : PO X (some (.UnaryOp .USub (.Constant (.int 1) k p1) p2)) (tPart (tUn (rU fun i => .int (-i)) (tC (.int 1)))) := po_some (pe_un un_neg pe_int)
  refine wpAny_Slice (thn (po_none.run pins s1 σ H1 (fun o H2 => o = none ∧ H2 = H1) I1 ⟨rfl, rfl⟩) fun vl s2 ⟨l, H2, I2, pl, el, e2⟩ => ?_)
  subst el e2
  refine thn (po_none.run pins s2 σ H2 (fun o H3 => o = none ∧ H3 = H2) I2 ⟨rfl, rfl⟩) fun vu s3 ⟨u, H3, I3, pu, eu, e3⟩ => ?_
  subst eu e3
  refine thn (hst.run pins s3 σ H3 (fun o H4 => o = some (-1) ∧ H4 = H3) I3 ⟨1, rfl, -1, rfl, rfl, rfl⟩) fun vs s4 ⟨o, H4, I4, ps, eo, e4⟩ => ?_
  subst eo e4
  have I5 : Inv X pins σ H4 { s4 with heap := s4.heap.push { cls := .type "slice", data := .fields #[vl, vu, vs] } } := I4.kept (t' := s4.toks) fun b ob q => Heap.get?_push_of_some _ q
  show wpAny (model X.prog X.w) X.A (subscriptTail e (.Slice none none (some (.UnaryOp .USub (.Constant (.int 1) k p1) p2)) p3) (.str z tz) (.ref s4.heap.objs.size)) (EP X pins σ Q) X.xe { s4 with heap := s4.heap.push { cls := .type "slice", data := .fields #[vl, vu, vs] } }
  refine tail_any (ops := [.str z tz, .ref s4.heap.objs.size]) (typeIs_str _ _ _) PySem.F.slot_str_getitem.lookup ?_ (by with_unfolding_all rfl)
  obtain ⟨l, rfl, hl⟩ := IsPart.raw pl
  obtain ⟨u, rfl, hu⟩ := IsPart.raw pu
  obtain ⟨st, rfl, hs⟩ := IsPart.raw ps
  have el : l = none := by cases l <;> simp_all
  have eu : u = none := by cases u <;> simp_all
  subst el eu
  refine wpAny_getItem_str_slice (l := none) (u := none) (st := st) ⟨_, Heap.get?_push_size _ rfl, rfl, rfl⟩ (by rw [hs]; rfl) ?_
  have e1 : (st.map (·.1)).getD 1 = (-1 : Int) := by rw [hs]; rfl
  have hne : ¬ (((st.map (·.1)).getD 1 == 1 && (slicePicked z none none st).length == z.length) = true) := by rw [e1]; simp
  have ep : (⟨((slicePicked z none none st).filterMap (z.cps[·]?)).toArray⟩ : Str) = revS z := by
    rw [← revS_pick z]
    unfold slicePicked
    rw [e1]
    rfl
  unfold sliceMade
  rw [if_neg hne, ep]
  exact ⟨by show (z.cps.toList.reverse.toArray.size) ≤ sizeLine; rw [List.size_toArray, List.length_reverse, Array.length_toList]; exact hz, .str _, H4, I5.tok _, ⟨_, rfl⟩, q⟩
/-! ### min(xs), xs a list of texts -/
def txts (xs : List Str) (i : Nat) : List Nat := (xs.getD i Str.empty).cps.toList
theorem strs_lt {prog : Program} {w : World} {A : Around} {P : Nat → Value → Prop} (val : Nat → Str) (hval : ∀ i v, P i v → ∃ t, v = .str (val i) t) :
    CmpOf prog w A .Lt P (fun i j => decide ((val i).cps.toList < (val j).cps.toList)) := fun i j vi vj s Q E hi hj h => by
  obtain ⟨t, rfl⟩ := hval i vi hi
  obtain ⟨u, rfl⟩ := hval j vj hj
  exact richCompare_gives (op := .Lt) (typeIs_str s _ t) (typeIs_str s _ u) PySem.F.slot_str_lt PySem.F.entry_str_lt (PySem.F.args_str_lt_2 _ _) (gives_str_lt _ _ t u) (fun x => nomatch x) h
theorem argBest_le (bt : Nat → Nat → Bool) (k : Nat) : argBest bt k ≤ k := by
  induction k with
  | zero => exact Nat.le_refl _
  | succ k ih =>
    show (if bt (k + 1) (argBest bt k) then k + 1 else argBest bt k) ≤ k + 1
    split
    · exact Nat.le_refl _
    · omega
theorem argBest_str (val : Nat → List Nat) (k : Nat) : ∀ j, j ≤ k → ¬ val j < val (argBest (fun i j => decide (val i < val j)) k) := by
  induction k with
  | zero => intro j hj; obtain rfl : j = 0 := by omega
            exact List.lt_irrefl _
  | succ k ih =>
    intro j hj
    show ¬ val j < val (if decide (val (k + 1) < val (argBest (fun i j => decide (val i < val j)) k)) = true then k + 1 else argBest (fun i j => decide (val i < val j)) k)
    split
    · rename_i c
      have c := of_decide_eq_true c
      rcases Nat.lt_or_ge k j with h | h
      · obtain rfl : j = k + 1 := by omega
        exact List.lt_irrefl _
      · exact fun h2 => ih j h (List.lt_trans h2 c)
    · rename_i c
      have c : ¬ val (k + 1) < _ := fun z => c (decide_eq_true z)
      rcases Nat.lt_or_ge k j with h | h
      · obtain rfl : j = k + 1 := by omega
        exact c
      · exact ih j h
def rMinS (K : PySem.W.Frag) : List V → Hp → VK → Prop := fun vs H Q => ∃ (a : Addr) (xs : List Str), vs = [V.ref a] ∧ SqL K H a (xs.map V.str) ∧ 0 < xs.length ∧
  ∀ m, m ∈ xs → (∀ y, y ∈ xs → ¬ y.cps.toList < m.cps.toList) → Q (.str m) H
theorem cr_minS {X : Cx} (hc : X.calm = true) : CallR X (.builtin "min") (rMinS X.K) := by
  intro pins s σ H vs us Q I r h
  obtain ⟨a, xs, rfl, hs, hne, q⟩ := h
  obtain ⟨its, rv, hl0, _⟩ := I.list hs
  have hl := hl0.isList
  rw [Vals.ref1 r]
  have hlen : its.length = xs.length := by rw [← rv.length, List.length_map]
  have hval : ∀ (i : Nat) (v : Value), its.toArray[i]? = some v → ∃ t, v = Value.str (xs.getD i Str.empty) t := fun i v e => by
    rw [List.getElem?_toArray] at e
    have hi : i < its.length := (List.getElem?_eq_some_iff.mp e).1
    have hx : (xs.map V.str)[i]? = some (.str (xs.getD i Str.empty)) := by
      rw [List.getElem?_map, List.getD_eq_getElem?_getD, List.getElem?_eq_getElem (by omega)]
      rfl
    obtain ⟨u, hu, ru⟩ := rv.get hx
    rw [e] at hu
    cases hu
    exact ru
  have hlt : a < s.heap.objs.size := by obtain ⟨_, e, _⟩ := hl; exact Heap.lt_size e
  have hsz : 0 < its.toArray.size := by rw [List.size_toArray]; omega
  refine call_min_walk (wpAny_pyIter_list hl ?_)
  refine ⟨_, _, _, _, _, _, _, rfl, Walks.list (A := X.A.in1) (I.ok.hd hc) _ a (Nat.ne_of_lt hlt) its.toArray, ⟨⟨_, Heap.get?_push_size _ rfl, rfl, rfl⟩, hl.push _⟩, fun b hb => ?_, hsz, strs_lt (fun i => xs.getD i Str.empty) hval, fun v h' tk hP hk => ?_⟩
  · show b < (s.heap.push _).objs.size
    rw [Heap.size_push]
    rcases List.mem_cons.mp hb with e | hb
    · rw [e]
      exact Nat.lt_succ_self _
    · rw [List.mem_singleton.mp hb]
      exact Nat.lt_succ_of_lt hlt
  · obtain ⟨t, rfl⟩ := hval _ v hP
    have b2 := argBest_str (fun i => (xs.getD i Str.empty).cps.toList) (its.toArray.size - 1)
    have b1 := argBest_le (fun i j => decide ((xs.getD i Str.empty).cps.toList < (xs.getD j Str.empty).cps.toList)) (its.toArray.size - 1)
    rw [List.size_toArray] at b1 b2 hsz ⊢
    refine ⟨.str _, H, I.kept (t' := tk) fun b u e => hk b u (fun hmem => ?_) (Heap.get?_push_of_some _ e), ⟨t, rfl⟩, q _ ?_ fun y hy => ?_⟩
    · have e1 : b = s.heap.objs.size := by simpa using hmem
      have e2 := Heap.lt_size e
      rw [e1] at e2
      exact absurd e2 (Nat.lt_irrefl _)
    · rw [List.getD_eq_getElem?_getD, List.getElem?_eq_getElem (show _ < xs.length by omega)]
      exact List.getElem_mem _
    · obtain ⟨i, hi, e⟩ := List.mem_iff_getElem.mp hy
      have e2 : xs.getD i Str.empty = y := by rw [List.getD_eq_getElem?_getD, List.getElem?_eq_getElem hi, ← e] <;> rfl
      have := b2 i (by omega)
      rw [e2] at this
      exact this
/-! ### zip(z, t), z a text and t a tuple -/
def ItzS (K : PySem.W.Frag) (x : Str) (b : Addr) : It :=
  ⟨fun i H => ∃ (ys : List V) (c : Nat) (y : V), SqT K H b ys ∧ x.cps[i]? = some c ∧ ys[i]? = some y,
    fun i H v H' => ∃ T c y, v = .ref T ∧ H T = none ∧ H' = upd H T (.tup [.str ⟨#[c]⟩, y]) ∧ x.cps[i]? = some c ∧ ∀ ys, SqT K H b ys → ys[i]? = some y,
    fun i H => ∃ ys : List V, SqT K H b ys ∧ i ≤ x.cps.size ∧ i ≤ ys.length ∧ (i = x.cps.size ∨ i = ys.length)⟩
structure ZA (z TI TO i1 i2 b : Addr) : Prop where
  a1 : TI ≠ z
  a2 : TO ≠ z
  a3 : TI ≠ TO
  a4 : TI ≠ i1
  a5 : i1 ≠ z
  a6 : i1 ≠ TO
  a7 : TI ≠ i2
  a8 : i2 ≠ z
  a9 : i2 ≠ TO
  b1 : i1 ≠ i2
  b2 : b ≠ z
  b3 : b ≠ TO
  b4 : b ≠ i1
  b5 : b ≠ i2
theorem za_of (n b : Nat) (h : b < n) : ZA (n + 4) (n + 2) (n + 3) n (n + 1) b :=
  ⟨(show (n + 2 : Nat) ≠ n + 4 by omega), (show (n + 3 : Nat) ≠ n + 4 by omega), (show (n + 2 : Nat) ≠ n + 3 by omega), (show (n + 2 : Nat) ≠ n by omega), (show (n : Nat) ≠ n + 4 by omega), (show (n : Nat) ≠ n + 3 by omega), (show (n + 2 : Nat) ≠ n + 1 by omega),
    (show (n + 1 : Nat) ≠ n + 4 by omega), (show (n + 1 : Nat) ≠ n + 3 by omega), (show (n : Nat) ≠ n + 1 by omega), (show (b : Nat) ≠ n + 4 by omega), (show (b : Nat) ≠ n + 3 by omega), (show (b : Nat) ≠ n by omega), (show (b : Nat) ≠ n + 1 by omega)⟩
theorem ZA.sep {z TI TO i1 i2 b : Addr} (D : ZA z TI TO i1 i2 b) : ZipSep2 z TI TO i1 i2 [i1] [i2, b] :=
  ⟨D.a1, D.a2, D.a3, D.a4, by simp, by simpa using D.a5.symm, by simpa using D.a6.symm, D.a7, by simp, by simpa using ⟨D.a8.symm, D.b2.symm⟩, by simpa using ⟨D.a9.symm, D.b3.symm⟩, by simpa using ⟨D.b1, D.b4.symm⟩, by simpa using D.b1.symm⟩
theorem turn_zipST {P : Program} {w : World} {K : PySem.W.Frag} {elts : List Expr} {kk : Nat} {tpos : Pos} {x : Str} {t : Tok} {b z TI TO i1 i2 : Addr} (D : ZA z TI TO i1 i2 b) :
    Turn P w K (.Tuple elts kk tpos) (ItzS K x b) [z, TI, TO, i1, i2] z (fun i h => IsZip h z TI TO .none ∧ IsTupOf2 h TI (.ref i1) (.ref i2) ∧ (∃ x y, IsTupOf2 h TO x y) ∧ h.IsStrIter i1 (strIterType x) x t i ∧ h.IsTupleIter i2 b i) where
  mem := by simp
  obj := fun i h st c hc => by
    obtain ⟨hz, hTI, ⟨x, y, hTO⟩, ⟨o1, e1, _, d1⟩, ⟨o2, e2, _, d2⟩⟩ := st
    have e' : c = z ∨ c = TI ∨ c = TO ∨ c = i1 ∨ c = i2 := by simpa using hc
    rcases e' with q | q | q | q | q
    · rw [q]; exact ⟨_, hz, fun v q => nomatch q⟩
    · rw [q]; exact ⟨_, hTI, fun v q => nomatch q⟩
    · rw [q]; exact ⟨_, hTO, fun v q => nomatch q⟩
    · rw [q]; exact ⟨o1, e1, fun v q => by rw [d1] at q; cases q⟩
    · rw [q]; exact ⟨o2, e2, fun v q => by rw [d2] at q; cases q⟩
  keep := fun i h h' st k => by
    obtain ⟨hz, hTI, ⟨x, y, hTO⟩, ⟨o1, e1, r1⟩, h2⟩ := st
    exact ⟨k z (by simp) _ hz, k TI (by simp) _ hTI, ⟨x, y, k TO (by simp) _ hTO⟩, ⟨o1, k i1 (by simp) o1 e1, r1⟩, h2.at fun o q => k i2 (by simp) o q⟩
  item := by
    intro X hP hw hK hc i pins s σ H E I hf st hg
    subst hP hw hK
    obtain ⟨hz, hTI, ⟨x0, y0, hTO⟩, h1, h2⟩ := st
    obtain ⟨ys, c, y, hqy, hcx, hy⟩ := hg
    obtain ⟨its2, rv2, p2, _⟩ := I.tuple hqy
    obtain ⟨u2, hu2, ru2⟩ := rv2.get hy
    have hzl : z < s.heap.objs.size := Heap.lt_size hz
    have hh : X.A.in1.handled = none := I.ok.hd hc
    have l1 : i < x.cps.size := (Array.getElem?_eq_some_iff.mp hcx).1
    have l2 : i < its2.toArray.size := by rw [List.size_toArray]; exact (List.getElem?_eq_some_iff.mp hu2).1
    have pT : s.heap.IsTuple b its2.toArray := p2
    refine wpAny_pyNext_zipD2_item D.sep (Draws.text hh i1 x t) (Draws.tuple hh i2 b D.b5 its2.toArray) hz hTI hTO h1 ⟨h2, pT⟩ l1 l2 fun x1 x2 h' tk y1 y2 z' TO' h1' h2' hT hsz hk => ?_
    obtain ⟨c', u1, hc', rfl⟩ := y1
    rw [hcx] at hc'
    cases hc'
    have e2 : x2 = u2 := by
      have : its2.toArray[i]? = some x2 := y2
      rw [List.getElem?_toArray, hu2] at this
      exact (Option.some.inj this).symm
    subst e2
    refine ⟨_, rfl, wpAny_letOwnedTupleGo_zip (s := { s with heap := h', toks := tk }) z' fun h'' z'' sb => ?_⟩
    have hT2 : h''.get? s.heap.objs.size = some { cls := .type "tuple", data := .seq #[.str ⟨#[c]⟩ u1, x2] } := (sb.2 _ (Nat.ne_of_gt hzl)).trans hT
    have new : ObjOk X.prog X.w (upd H s.heap.objs.size (.tup [.str ⟨#[c]⟩, y])) h'' s.heap.objs.size (.tup [.str ⟨#[c]⟩, y]) :=
      ⟨by show 2 ≤ sizeLine; decide, [.str ⟨#[c]⟩ u1, x2], .cons ⟨u1, rfl⟩ (.cons ru2 .nil), ⟨_, hT2, rfl, _, rfl⟩⟩
    have I1 : Inv X pins σ (upd H s.heap.objs.size (.tup [.str ⟨#[c]⟩, y])) { s with heap := h'', toks := tk } :=
      I.turnedNew (t' := tk) (ch := [z, TI, TO, i1, i2]) (fun c o hb q => (sb.2 c (fun q' => hb (by simp [q']))).trans (hk c o (fun q' => hb (by simp [q'])) (fun q' => hb (by simp [q'])) (fun q' => hb (by simp [q'])) (fun q' => hb (by simp [q'])) q)) hf (Nat.le_refl _) new
    refine ⟨.ref s.heap.objs.size, _, I1, rfl, ⟨_, c, y, rfl, I.hok.fresh (Nat.le_refl _), rfl, hcx, fun l hl => by rw [I.tuple_inj hl hqy]; exact hy⟩, ⟨z'', ?_, ⟨.str ⟨#[c]⟩ u1, x2, ?_⟩, ?_, ?_⟩, fun c hcm => ?_⟩
    · exact (sb.2 _ D.a1).trans (hk _ _ D.a1 D.a3 D.a4 D.a7 hTI)
    · exact (sb.2 _ D.a2).trans TO'
    · obtain ⟨o, ho, r⟩ := h1'
      exact ⟨o, (sb.2 _ D.a5).trans ho, r⟩
    · exact h2'.1.at fun o q => (sb.2 _ D.a8).trans q
    · have hlt : c < s.heap.objs.size := by
        have e' : c = z ∨ c = TI ∨ c = TO ∨ c = i1 ∨ c = i2 := by simpa using hcm
        rcases e' with q | q | q | q | q
        · rw [q]; exact hzl
        · rw [q]; exact Heap.lt_size hTI
        · rw [q]; exact Heap.lt_size hTO
        · rw [q]; obtain ⟨_, e1, _⟩ := h1; exact Heap.lt_size e1
        · rw [q]; obtain ⟨_, e2, _⟩ := h2; exact Heap.lt_size e2
      rw [upd_ne (Nat.ne_of_lt hlt)]
      exact (hf c hcm).1
  done := by
    intro X hP hw hK hc i pins s σ H E I hf st hg
    subst hP hw hK
    obtain ⟨hz, hTI, ⟨x0, y0, hTO⟩, h1, h2⟩ := st
    obtain ⟨ys, hqy, m1, m2, hend⟩ := hg
    obtain ⟨its2, rv2, p2, _⟩ := I.tuple hqy
    have l2 := rv2.length
    have hh : X.A.in1.handled = none := I.ok.hd hc
    have pT : s.heap.IsTuple b its2.toArray := p2
    exact wpAny_pyNext_zipD2_end D.sep (Draws.text hh i1 x t) (Draws.tuple hh i2 b D.b5 its2.toArray) hz hTI hTO h1 ⟨h2, pT⟩ m1 (by rw [List.size_toArray]; omega) (by rcases hend with e | e; exact .inl e; exact .inr (by rw [e, List.size_toArray]; exact l2)) fun h' tk hk =>
      ⟨rfl, I.turnedL (t' := tk) (ch := [z, TI, TO, i1, i2]) (fun c o hb q => hk c o (fun q' => hb (by simp [q'])) (fun q' => hb (by simp [q'])) (fun q' => hb (by simp [q'])) (fun q' => hb (by simp [q'])) q) hf⟩
  self := fun A i s Q E st h => wpAny_pyIter_zip st.1 h
def iZipST (K : PySem.W.Frag) (ta : TA) : TI := fun σ H R => ta σ H fun vs H1 => ∃ z b ys, vs = [.str z, .ref b] ∧ SqT K H1 b ys ∧ R (ItzS K z b) H1
theorem pi_zipST {X : Cx} {e e2 : Expr} {ta : TA} {p pos tpos : Pos} {elts : List Expr} {kk : Nat} (hg : Gl X "zip") (hm : X.mg "zip" = none) (ha : PA X [e, e2] ta)
    (hs : starEach [e, e2] X.env = (false, eval e X.env) :: starEach [e2] X.env := by rfl) (hpl : (backTo pos (starEach [e2] X.env)).any (·.1) = false := by rfl) :
    PI X (.Tuple elts kk tpos) (.Call (.Name "zip" p) [e, e2] [] pos) (iZipST X.K ta) := by
  refine ⟨fun pins s σ H R I h => ?_⟩
  refine Call_ (ld_blt I hg hm PyProof.Rows.boot_zip (PyProof.Rows.callWith_type1 (thn (ha.run pos pins s σ H _ I h) fun us s1 ⟨vs, H1, I1, r1, q1⟩ => ?_) hs hpl))
  obtain ⟨z, b, ys, ex, hqy, q⟩ := q1
  subst ex
  cases r1 with
  | cons r rr =>
    cases rr with
    | cons r' rr =>
      cases rr
      obtain ⟨t, rfl⟩ := r
      cases r'
      have fresh5 : ∀ c, c ∈ [s1.heap.objs.size + 4, s1.heap.objs.size + 2, s1.heap.objs.size + 3, s1.heap.objs.size, s1.heap.objs.size + 1] → FpOk X pins H1 c := fun c hcm => by
        have e' : c = s1.heap.objs.size + 4 ∨ c = s1.heap.objs.size + 2 ∨ c = s1.heap.objs.size + 3 ∨ c = s1.heap.objs.size ∨ c = s1.heap.objs.size + 1 := by simpa using hcm
        have hle : s1.heap.objs.size ≤ c := by
          rcases e' with z | z | z | z | z
          · rw [z]; exact Nat.le_add_right _ _
          · rw [z]; exact Nat.le_add_right _ _
          · rw [z]; exact Nat.le_add_right _ _
          · rw [z]; exact Nat.le_refl _
          · rw [z]; exact Nat.le_add_right _ _
        exact I1.fpOk hle (I1.hok.fresh hle)
      obtain ⟨its2, rv2, p2, _⟩ := I1.tuple hqy
      have pT : s1.heap.IsTuple b its2.toArray := p2
      have hb : b < s1.heap.objs.size := by obtain ⟨_, e, _⟩ := pT; exact Heap.lt_size e
      refine zip_begins2 (begins_text z t) (begins_tuple b its2.toArray) trivial pT fun h' hz hTI hTO h1 h2 hsz hk => wpAny_pyIter_zip hz ?_
      have I2 : Inv X pins σ H1 { s1 with heap := h' } := I1.kept (t' := s1.toks) hk
      have dd : ZA (s1.heap.objs.size + 4) (s1.heap.objs.size + 2) (s1.heap.objs.size + 3) s1.heap.objs.size (s1.heap.objs.size + 1) b := za_of _ _ hb
      exact ⟨s1.heap.objs.size + 4, [s1.heap.objs.size + 4, s1.heap.objs.size + 2, s1.heap.objs.size + 3, s1.heap.objs.size, s1.heap.objs.size + 1], _, _, H1, rfl, I2, turn_zipST (t := t) dd, ⟨hz, hTI, ⟨_, _, hTO⟩, ⟨_, h1, rfl, rfl⟩, ⟨_, h2, rfl, rfl⟩⟩, fresh5, q⟩
/-- a walk over zip of a text and a tuple of one length -/
theorem walk_zipST {K : PySem.W.Frag} {x : Str} {b : Addr} {ys : List V} (hl : ys.length = x.cps.size) :
    Walk (ItzS K x b) ys.length (fun H => SqT K H b ys) (fun i H v H' => ∃ T c y, v = .ref T ∧ H T = none ∧ H' = upd H T (.tup [.str ⟨#[c]⟩, y]) ∧ x.cps[i]? = some c ∧ ys[i]? = some y) where
  goes := fun i H hi h => by
    have h2 : i < x.cps.size := by omega
    exact ⟨ys, x.cps[i], ys[i], h, by simp [h2], by simp [hi]⟩
  stops := fun H h => ⟨ys, h, by omega, Nat.le_refl _, .inr rfl⟩
  yields := fun i H v H' hi h y => by
    obtain ⟨T, c, y, e, hT, e2, hc, hy⟩ := y
    exact ⟨T, c, y, e, hT, e2, hc, hy ys h⟩
end FK

/-! Own rule: text * int. -/
namespace FK
open PySem PySem.Spec PyProof.Rows L2
def repS (z : Str) (n : Nat) : Str := ⟨((List.replicate n z.cps.toList).flatten).toArray⟩
theorem rep_fold (n : Nat) (a acc : Array Nat) : ((List.replicate n a).foldl (· ++ ·) acc).toList = acc.toList ++ (List.replicate n a.toList).flatten := by
  induction n generalizing acc with
  | zero => simp
  | succ n ih =>
    rw [List.replicate_succ, List.foldl_cons, ih, List.replicate_succ, List.flatten_cons, Array.toList_append, List.append_assoc]
theorem repS_length (z : Str) (n : Nat) : (repS z n).length = z.length * n := by
  show ((List.replicate n z.cps.toList).flatten).toArray.size = _
  rw [List.size_toArray, List.length_flatten, List.map_replicate, List.sum_replicate_nat, Array.length_toList, Nat.mul_comm]
  rfl
def rRepS : V → V → Hp → VK → Prop := fun x y H Q => ∃ (z : Str) (n : Nat), x = .str z ∧ y = .int (n : Int) ∧ z.length * n ≤ sizeLine ∧ n < 2 ^ 62 ∧ Q (.str (repS z n)) H
theorem op_rep_str {X : Cx} : OpR X (binaryOp .Mult) rRepS := by
  intro pins s σ H x y v u Q I rx ry h
  obtain ⟨z, n, rfl, rfl, hz, hn, q⟩ := h
  obtain ⟨t, rfl⟩ := rx
  obtain ⟨t', rfl⟩ := ry
  have hsl : sizeLine = 16777216 := sizeLine_eq
  refine PySem.P.mul_str (by simp; omega) (fun h1 h2 => ?_) (fun h1 h2 => ?_) ?_
  · have hn0 : (0 : Int) < n := by omega
    have h3 : ((z.length : Nat) : Int) * (n : Int) ≤ 2 ^ 63 - 1 := by
      have : ((z.length * n : Nat) : Int) ≤ (sizeLine : Int) := by omega
      rw [Int.natCast_mul] at this
      omega
    have := Int.le_ediv_of_mul_le hn0 h3
    omega
  · rw [Int.toNat_natCast]
    exact decide_eq_false (fun h => absurd h (Nat.not_lt.mpr hz))
  · have done : ∀ tk : Nat, ∀ w : Str, w = repS z n → Q (.str w) H := fun _ w e => by rw [e]; exact q
    by_cases c1 : (n : Int) < 1
    · rw [if_pos c1]
      have e0 : n = 0 := by omega
      refine ⟨by decide, .str _, H, I.tok _, ⟨_, rfl⟩, ?_⟩
      have e : (Str.empty : Str) = repS z n := by rw [e0]; rfl
      rw [e]
      exact q
    · rw [if_neg c1]
      by_cases c2 : ((n : Int) == 1 || z.length == 0) = true
      · rw [if_pos c2]
        refine ⟨.str z, H, I, ⟨t, rfl⟩, ?_⟩
        have e : z = repS z n := by
          cases z with | mk a =>
          rw [Bool.or_eq_true] at c2
          rcases c2 with c2 | c2
          · have h1 : (n : Int) = 1 := eq_of_beq c2
            have : n = 1 := by omega
            subst this
            simp [repS]
          · have ha : a.size = 0 := eq_of_beq c2
            have ha2 : a = #[] := Array.eq_empty_of_size_eq_zero ha
            subst ha2
            simp [repS]
        rw [← e] at q
        exact q
      · rw [if_neg c2]
        have e : (⟨(List.replicate (n : Int).toNat z.cps).foldl (· ++ ·) #[]⟩ : Str) = repS z n := by
          have h1 := rep_fold n z.cps #[]
          rw [Int.toNat_natCast]
          unfold repS
          congr 1
          apply Array.toList_inj.mp
          rw [h1]
          simp
        rw [e]
        exact ⟨by rw [repS_length]; exact hz, .str _, H, I.tok _, ⟨_, rfl⟩, q⟩
end FK

/-! Own kit: calls of defs that may raise, where they do not. -/
namespace FK
open PySem PySem.Spec PyProof.Rows L2
theorem pass1 {X : Cx} : Passes (L2.CX X.prog X.w) X E0 := by
  intro pins σ H s e s' I h
  unfold L2.CX at h
  simp only [E0] at h
  first
  | exact h.elim
  | (obtain ⟨_, _, h⟩ := h; simp_all)
  | skip
theorem Has.imp {P : Program} {w : World} {K : PySem.W.Frag} {mg : Str → Option Value} {base : Heap} {CX : CXT} {k : Nat} {x : Str} {ps : List Str} {sp sp' : Sp} (h : Has P w K mg base CX k x ps sp) (hi : ∀ vs H Q E, sp' vs H Q E → sp vs H Q E) : Has P w K mg base CX k x ps sp' := by
  obtain ⟨f, fd, F, r⟩ := h
  exact ⟨f, fd, F.imp hi, r⟩
end FK

/-! Own kit: makings that may raise; dicts with texts as keys. -/
namespace FK
open PySem PySem.Spec PyProof.Rows L2
section
variable {P : Program} {w : World} {K : PySem.W.Frag} {mg : Str → Option Value} {base : Heap}
theorem IAt.okX {C : Addr} {q : Str} {st : Stmt} {N ps : List Str} {k : Nat} {sp : Sp} (D : IAt K C q st ps) (S : FnScope N ps (defScope st)) (len : ∀ vs H Q E, sp vs H Q E → vs.length = ps.length)
    (hbody : ∀ (f : Addr) (cdv : Value) (A : Around) (outer : List Env) (s : Shared) (H : Hp) (vs : List V) (Q : VK) (E : XK), Room k (A.deeper (envOfC q (defScope st) s.heap.objs.size f cdv)) → sp vs H Q E →
      ∃ t, PSs (cxOf (L2.CX P w) P w K mg base N q (defScope st) f cdv A outer s H E) (defBody st) t ∧ t { nx := fun _ H' => Q .non H', rt := Q } (start N vs) H) : IHas P w K mg base (L2.CX P w) (k + 1) C ps sp := by
  obtain ⟨f, fd, F, g, b⟩ := D
  exact ⟨f, fd, F.okX S len (hbody f), g, b⟩
end
end FK

/-! Own kit: an error that is caught is handed to a def without loops and raises. -/
namespace FK
open PySem PySem.Spec PyProof.Rows L2
/-- what such a def promises: a, cls and dd tell the error -/
abbrev SpE := Addr → Value → Option Addr → List V → Hp → VK → Prop
section
variable {P : Program} {w : World} {K : PySem.W.Frag} {mg : Str → Option Value} {base : Heap}
theorem run_defE {x q : Str} {pr : Arguments} {body : List Stmt} {sc : Scope} {N ps : List Str} {k : Nat} {f : Addr} {A : Around} {outer : List Env} {s : Shared} {H : Hp} {us : List Value} {vs : List V} {args : Args} {Q : VK} {kV doc pm cdv ct oc : Value} {an od : Option Addr} {osl : Array (Option Value)} {po : Addr × Obj}
    (lk : K.lookup f = some ⟨oc, od, .func (PySem.W.fnOf x q pr body sc .none kV doc pm an cdv ct), osl⟩) (hc : PySem.W.codeIn K cdv q = true)
    (S : FnScope N ps sc) (hr : L2H.RoomH (k + 1) A) (pk : L2H.PinOk outer H s po) (e0 : Env0 P w K mg base A outer s H) (hv : Vals vs us) (hl : vs.length = ps.length) (hb : BindsTo s (PySem.W.fnOf x q pr body sc .none kV doc pm an cdv ct) args (ps.zip us))
    {t : TS} (hp : PSs (L2H.cxH CX0 P w K mg base N q sc f cdv A outer s H E0 po) body t) (ht : t { nx := fun _ H' => Q .non H', rt := Q } (start N vs) H) :
    codeAny (model P w) A (.call (.ref f) args) (CR CX0 outer P w H s Q E0) s := by
  have up : ∀ {b : Addr} {o : Obj}, base.get? b = some o → s.heap.get? b = some o := fun {b o} e => (e0.bs b o e).1
  have inK : K.In s.heap := e0.mod.kin.keeps fun _ _ e => up e
  refine codeAny_call_function hr.depth (inK _ _ lk) rfl S.co S.gen rfl (PySem.W.codeRec_of inK hc) (hb _ _ _ _ ?_)
  refine wpAny_newFunctionEnv_cells S.kind (fun z hz => ?_) fun env he s1 C => ?_
  · rcases S.par z.1 (List.of_mem_zip (show (z.1, z.2) ∈ ps.zip us from hz)).1 with c | c
    · exact Or.inl c
    · exact Or.inr ⟨c, PySem.W.cellsFrom_some _ _ _ (Or.inl c)⟩
  · cases he
    have nl : s.heap.NoLimit := e0.mod.nolimit.keeps fun _ _ e => up e
    refine ⟨nl.keeps C.toInCall.keep, codeAny_func ?_⟩
    have I := L2H.inv_startH (CX := CX0) (qual := q) (f := f) (cd := cdv) (E := E0) S pk e0 hl hv C
    refine wpAny_mono (hp.run [] s1 (start N vs) H _ I ht) (fun fl s2 z => ?_) fun _ _ z => z
    cases fl with
    | ret u => obtain ⟨v, _, H2, J, rv, q⟩ := z; exact ⟨v, H2, J.os, J.bare, J.base, J.hok, rv, q⟩
    | next => obtain ⟨_, H2, J, q⟩ := z; exact ⟨.non, H2, J.os, J.bare, J.base, J.hok, rfl, q⟩
    | brk => exact False.elim (let ⟨_, _, _, q⟩ := z; q)
    | cont => exact False.elim (let ⟨_, _, _, q⟩ := z; q)
/-- the def of this name keeps the promise, called with the error that is handled -/
def EHas (P : Program) (w : World) (K : PySem.W.Frag) (mg : Str → Option Value) (base : Heap) (k : Nat) (x : Str) (ps : List Str) (sp : SpE) : Prop :=
  ∃ (f : Addr) (fd : FuncData), (∀ (A : Around) (outer : List Env) (s : Shared) (H : Hp) (args : Args) (us : List Value) (vs : List V) (Q : VK) (po : Addr × Obj) (cls : Value) (dd : Option Addr), L2H.RoomH k A → L2H.PinOk outer H s po → Zc cls dd po.2 → (∃ z, po.2.data = .fields z) →
    Env0 P w K mg base A outer s H → BindsTo s fd args (ps.zip us) → Vals vs us → vs.length = ps.length → sp po.1 cls dd vs H Q → codeAny (model P w) A (.call (.ref f) args) (CR CX0 outer P w H s Q E0) s) ∧
    mg x = some (.ref f) ∧ PySem.W.keepIn K (.ref f) = true ∧ Binds K fd ps []
theorem At.okE {x : Str} {st : Stmt} {N ps : List Str} {k : Nat} {sp : SpE} (D : At K mg x st ps) (S : FnScope N ps (defScope st))
    (hbody : ∀ (f : Addr) (cdv : Value) (A : Around) (outer : List Env) (s : Shared) (H : Hp) (vs : List V) (Q : VK) (a : Addr) (oe : Obj) (cls : Value) (dd : Option Addr), L2H.RoomH k (A.deeper (envOfC x (defScope st) s.heap.objs.size f cdv)) → Zc cls dd oe → (∃ z, oe.data = .fields z) → sp a cls dd vs H Q →
      ∃ t, PSs (L2H.cxH CX0 P w K mg base N x (defScope st) f cdv A outer s H E0 (a, oe)) (defBody st) t ∧ t { nx := fun _ H' => Q .non H', rt := Q } (start N vs) H) : EHas P w K mg base (k + 1) x ps sp := by
  obtain ⟨f, fd, F, g, b⟩ := D
  refine ⟨f, fd, fun A outer s H args us vs Q po cls dd hr pk hz hf e0 hb hv hl hs => ?_, g, F.kp, b⟩
  obtain ⟨oc, od, kV, doc, pm, an, cdv, ct, osl, rfl, lk, hc⟩ := F.ex
  obtain ⟨t, h1, h2⟩ := hbody f cdv A outer s H vs Q po.1 po.2 cls dd (hr.deeper _) hz hf hs
  exact run_defE lk hc S hr pk e0 hv hl hb h1 h2
end
section
variable {X : Cx} {k : Nat} {x : Str} {ps : List Str} {p pos : Pos} {e : Expr} {es : List Expr} {t : TA}
/-- f(e, ..) in the suite that holds the error a -/
theorem pe_hE {sp : SpE} {a : Addr} {oe : Obj} {cls : Value} {dd : Option Addr} {pn : List (Addr × Obj)} (hz : Zc cls dd oe) (hf : ∃ z, oe.data = .fields z) (h : EHas X.prog X.w X.K X.mg X.base k x ps sp) (hr : Room k X.A) (ha : PA (X.suite a ((a, oe) :: pn)) (e :: es) t) (hg : Gl X x := by rfl)
    (hdb : (x == ("__debug__" : Str)) = false := by decide) (he : starEach (e :: es) X.env = (false, eval e X.env) :: starEach es X.env := by rfl) (hpl : (backTo pos (starEach es X.env)).any (·.1) = false := by rfl) :
    PE (X.suite a ((a, oe) :: pn)) (.Call (.Name x p) (e :: es) [] pos) (fun σ H Q => t σ H fun vs H1 => vs.length = ps.length ∧ sp a cls dd vs H1 Q) := by
  obtain ⟨f, fd, F, gm, kp, bd⟩ := h
  constructor
  intro pins s σ H Q I hh
  apply wpAny_Call_Name_kw
  apply ld_glob I hg gm _ hdb
  refine PySem.W.callWith_K (h₀ := X.base) I.ok.mod.kin kp (thn (ha.run pos pins s σ H _ I hh) fun us s1 z => ?_) he hpl
  obtain ⟨vs, H1, J, rv, hl, q⟩ := z
  refine ⟨J.kIn, ?_⟩
  have P1 := J.pin (a, oe) (List.mem_append_left _ List.mem_cons_self)
  have pk : L2H.PinOk X.stack H1 s1 (a, oe) := by
    refine ⟨P1.1, P1.2.1, fun hm => ?_, P1.2.2.2.2⟩
    rcases List.mem_cons.mp (J.stkSub a hm) with z | z
    · exact P1.2.2.1 z
    · exact P1.2.2.2.1 z
  have lu : us.length = ps.length := by rw [← rv.length]; exact hl
  have bb := bd s1 us J.kIn (by rw [List.append_nil]; exact lu)
  rw [List.append_nil] at bb
  have run := F (X.suite a ((a, oe) :: pn)).A X.stack s1 H1 ⟨us, []⟩ us vs Q (a, oe) cls dd ⟨hr.dp, hr.un⟩ pk hz hf J.env0 bb rv hl q
  refine wpAny_call (codeAny_mono run fun r s2 z => ?_)
  match r, z with
  | .ok (.ret u), z => exact J.after z
  | .error _, z => exact False.elim z
  | .ok .next, z => exact False.elim z
  | .ok .brk, z => exact False.elim z
  | .ok .cont, z => exact False.elim z
/-- isinstance(e, c) of the error that every state bears -/
theorem call_isP {a : Addr} {oe : Obj} {cls : Value} {dd : Option Addr} (hz : Zc cls dd oe) (hf : ∃ z, oe.data = .fields z) (hp : (a, oe) ∈ X.pn) :
    CallR X (.builtin "isinstance") (fun xs H Q => ∃ D : Addr, cls = .ref D ∧ dd = none ∧ ExcC X.K D ∧ rIsE X.K D a xs H Q) := by
  rintro pins s σ H xs us Q I r ⟨D, rfl, rfl, C, c, cv, b, rfl, hcv, hk, q⟩
  obtain ⟨u, u2, rfl, r1, r2⟩ := vals2 r
  cases r1
  cases hcv _ r2
  have g := (I.pin (a, oe) (List.mem_append_left _ hp)).1
  obtain ⟨z, hzd⟩ := hf
  have J : PySem.W.InstAt s.heap a oe D none := by
    cases oe with
    | mk c1 d1 dt sl =>
      obtain ⟨h1, h2⟩ := hz
      simp only at h1 h2 hzd
      subst h1 h2 hzd
      exact ⟨g, rfl, rfl, trivial⟩
  have kx := PySem.W.handS_kitx_exc (x := a) (ox := oe) C.hg C.hk C.hs C.hd C.ha C.hn C.ht C.hm
  refine PySem.W.kia_one kx I.kIn J hk (fun z => nomatch z) fun tk => ?_
  exact ⟨.bl b, H, I.kept (t' := tk) fun _ _ z => z, rfl, q⟩
end
end FK

/-! Own kit: lists of texts compared. -/
namespace FK
open PySem PySem.Spec PyProof.Rows L2
theorem dpAll_strs {K : PySem.W.Frag} {H : Hp} : ∀ xs : List Str, DpAll K H (xs.map V.str) (xs.map PyData.str)
  | [] => .nil
  | x :: xs => .cons (.str x) (dpAll_strs xs)
theorem canLay_strs : ∀ xs : List Str, (∀ x ∈ xs, PyData.strOk x = true) → PyData.canLayAll0 (xs.map PyData.str) = true
  | [], _ => rfl
  | x :: xs, h => by
    simp only [List.map_cons, PyData.canLayAll0, PyData.canLay0, canLay_strs xs (fun y hy => h y (List.mem_cons_of_mem _ hy)), h x List.mem_cons_self, Bool.and_true]
theorem depth_strs : ∀ xs : List Str, PyData.depthAll (xs.map PyData.str) ≤ 2
  | [] => by simp only [List.map_nil, PyData.depthAll]; decide
  | x :: xs => by
    have := depth_strs xs
    simp only [List.map_cons, PyData.depthAll, PyData.depth]
    omega
theorem shaped_strs (xs : List Str) (h : ∀ x ∈ xs, PyData.strOk x = true) : SeqAt.shaped (.list (xs.map PyData.str)) = true := by
  unfold SeqAt.shaped
  rw [show PyData.canLay0 (.list (xs.map PyData.str)) = PyData.canLayAll0 (xs.map PyData.str) from rfl, canLay_strs xs h, Bool.true_and]
  refine decide_eq_true ?_
  have := depth_strs xs
  simp only [PyData.depth]
  omega
theorem eqv_strs : ∀ xs ys : List Str, PyData.eqvAll (xs.map PyData.str) (ys.map PyData.str) = decide (xs = ys)
  | [], [] => rfl
  | [], y :: ys => rfl
  | x :: xs, [] => rfl
  | x :: xs, y :: ys => by
    rw [List.map_cons, List.map_cons, PyData.eqvAll, eqv_strs xs ys, PyData.eqv]
    by_cases h : x = y
    · subst h
      simp
    · simp [h]
theorem eqD_strs {K : PySem.W.Frag} {H : Hp} {a b : Addr} {xs ys : List Str} {Q : VK} (ha : SqL K H a (xs.map V.str)) (hb : SqL K H b (ys.map V.str)) (hx : ∀ x ∈ xs, PyData.strOk x = true) (hy : ∀ x ∈ ys, PyData.strOk x = true) (q : Q (.bl (decide (xs = ys))) H) : rEqD K (.ref a) (.ref b) H Q :=
  ⟨_, _, .lst ha (dpAll_strs xs), .lst hb (dpAll_strs ys), shaped_strs xs hx, shaped_strs ys hy, by rw [PyData.eqv, eqv_strs]; exact q⟩
theorem neD_strs {K : PySem.W.Frag} {H : Hp} {a b : Addr} {xs ys : List Str} {Q : VK} (ha : SqL K H a (xs.map V.str)) (hb : SqL K H b (ys.map V.str)) (hx : ∀ x ∈ xs, PyData.strOk x = true) (hy : ∀ x ∈ ys, PyData.strOk x = true) (q : Q (.bl (!decide (xs = ys))) H) : rNeD K (.ref a) (.ref b) H Q :=
  ⟨_, _, .lst ha (dpAll_strs xs), .lst hb (dpAll_strs ys), shaped_strs xs hx, shaped_strs ys hy, by rw [PyData.eqv, eqv_strs]; exact q⟩
end FK

/-! Own kit: methods and makings that may raise, in a try's body. -/
namespace FK
open PySem PySem.Spec PyProof.Rows L2
section
variable {X : Cx} {k : Nat} {x m : Str} {C : Addr} {ps : List Str} {sp : Sp} {p pos apos : Pos} {o e : Expr} {es : List Expr} {t : TA} {ta : TE} {CX : CXT}
/-- o.m(e, ..); what it lets out is wished for at the slots -/
theorem pe_mS {E : L2.St → XK} {pl : Sem Bool} (he : PE X o ta) (c : Cls X.K C) (h : MHas X.prog X.w X.K X.mg X.base CX k C m ps sp) (hr : Room k X.A) (hx : ∀ σ, PassesAt CX X σ (E σ)) (ha : PA X (e :: es) t)
    (hst : starEach (e :: es) X.env = (false, eval e X.env) :: starEach es X.env := by rfl) (hpl : (backTo pos (starEach es X.env)).any (·.1) = false := by rfl)
    (ht : eval (.Call (.Attribute o m apos) (e :: es) [] pos) X.env = (do
      let ov ← eval o X.env
      standAt apos.atName
      let (f, first) ← holding [ov] (getMethod ov m pl)
      callWith pos f first (backTo pos (starEach (e :: es) X.env)) (backToKw pos (keywordEach [] X.env))) := by rfl) :
    PE X (.Call (.Attribute o m apos) (e :: es) [] pos) (L2H.tMethH C m sp E ta t) := by
  obtain ⟨f, fd, F, g, b⟩ := h
  constructor
  intro pins s σ H Q I hh
  apply PySem.W.methodCall_KW (pl := pl) _ ht
  refine thn (he.run pins s σ H _ I hh) fun u s1 z => ?_
  obtain ⟨x, H1, J, rx, a, dx, fs, rfl, ea, l, q⟩ := z
  obtain rfl : u = Value.ref a := rx
  apply getmeth_ok J ea c g l
  refine PySem.W.callWith_K (first := [.ref a]) (h₀ := X.base) J.ok.mod.kin g.kp (thn (ha.run pos pins s1 σ H1 _ J q) fun us s2 z => ?_) hst hpl
  obtain ⟨vs, H2, J2, rv, q2⟩ := z
  exact ⟨J2.kIn, run_fnS (us := .ref a :: us) (vs := .ref a :: vs) F hr b (hx σ) J2 (.cons rfl rv) q2⟩
/-- C(e, ..) in the same way -/
def tMakeS (C : Addr) (sp : Sp) (E : L2.St → XK) (t : TA) : TE := fun σ H Q => t σ H fun vs H1 => ∀ x dx, H1 x = none → H1 dx = none → dx ≠ x →
  sp (.ref x :: vs) (upd (upd H1 dx (.own x)) x (.ins C dx [])) (fun v H2 => v = .non ∧ Q (.ref x) H2) (E σ)
theorem pe_iS {E : L2.St → XK} (h : IHas X.prog X.w X.K X.mg X.base CX k C ps sp) (hr : Room (k + 1) X.A) (hm : X.mg x = some (.ref C)) (hx : ∀ σ, PassesAt CX X σ (E σ)) (ha : PA X (e :: es) t) (hg : Gl X x := by rfl)
    (hdb : (x == ("__debug__" : Str)) = false := by decide) (he : starEach (e :: es) X.env = (false, eval e X.env) :: starEach es X.env := by rfl) (hpl : (backTo pos (starEach es X.env)).any (·.1) = false := by rfl) :
    PE X (.Call (.Name x p) (e :: es) [] pos) (tMakeS C sp E t) := by
  obtain ⟨f, fd, F, M, b⟩ := h
  constructor
  intro pins s σ H Q I hh
  apply wpAny_Call_Name_kw
  apply ld_glob I hg hm _ hdb
  refine PySem.W.callWith_K (h₀ := X.base) I.ok.mod.kin M.kp (thn (ha.run pos pins s σ H _ I hh) fun us s1 z => ?_) he hpl
  obtain ⟨vs, H1, J, rv, q⟩ := z
  refine ⟨J.kIn, ?_⟩
  have hq := q (s1.heap.objs.size + 1) s1.heap.objs.size (J.hok.fresh (Nat.le_succ _)) (J.hok.fresh (Nat.le_refl _)) (Nat.ne_of_lt (Nat.lt_succ_self _))
  have J2 := Inv.made (C := C) J
  have r2 : Vals (V.ref (s1.heap.objs.size + 1) :: vs) (Value.ref (s1.heap.objs.size + 1) :: us) := .cons rfl rv
  have hl : (Value.ref (s1.heap.objs.size + 1) :: us).length = ps.length := by
    rw [← r2.length]
    exact F.len _ _ _ _ hq
  have bb := b _ (Value.ref (s1.heap.objs.size + 1) :: us) J2.kIn (by rw [List.append_nil]; exact hl)
  rw [List.append_nil] at bb
  have run := F.run _ X.stack _ _ ⟨Value.ref (s1.heap.objs.size + 1) :: us, []⟩ (Value.ref (s1.heap.objs.size + 1) :: us) _ _ (E σ) (hr.make C us []) (J2.env0.make C us []) bb r2 hq
  refine wpAny_call (make_map (f := f) J.kIn M.makes M.init (beq_iff_eq.mp M.fn) (codeAny_mono run fun r s2 z => ?_))
  match r, z with
  | .ok (.ret u), z =>
    obtain ⟨v, H', J3, rw', ev, q3⟩ := J2.after z
    subst ev
    exact ⟨rw', V.ref (s1.heap.objs.size + 1), H', J3, rfl, q3⟩
  | .error er, z => exact hx σ pins _ _ er s2 J2 z
  | .ok .next, z => exact False.elim z
  | .ok .brk, z => exact False.elim z
  | .ok .cont, z => exact False.elim z
end
theorem MHas.imp {P : Program} {w : World} {K : PySem.W.Frag} {mg : Str → Option Value} {base : Heap} {CX : CXT} {k : Nat} {C : Addr} {m : Str} {ps : List Str} {sp sp' : Sp} (h : MHas P w K mg base CX k C m ps sp) (hi : ∀ vs H Q E, sp' vs H Q E → sp vs H Q E) : MHas P w K mg base CX k C m ps sp' := by
  obtain ⟨f, fd, F, r⟩ := h
  exact ⟨f, fd, F.imp hi, r⟩
theorem IHas.imp {P : Program} {w : World} {K : PySem.W.Frag} {mg : Str → Option Value} {base : Heap} {CX : CXT} {k : Nat} {C : Addr} {ps : List Str} {sp sp' : Sp} (h : IHas P w K mg base CX k C ps sp) (hi : ∀ vs H Q E, sp' vs H Q E → sp vs H Q E) : IHas P w K mg base CX k C ps sp' := by
  obtain ⟨f, fd, F, r⟩ := h
  exact ⟨f, fd, F.imp hi, r⟩
end FK

/-! Own kit: sorted(xs) of texts, sorted(xs, key=len) of texts. -/
namespace FK
open PySem PySem.Spec PyProof.Rows L2
/-! ### sorted(xs), texts, any number -/
def rSortT (K : PySem.W.Frag) : List V → Hp → VK → Prop := fun vs H Q => ∃ (a : Addr) (xs : List Str), vs = [V.ref a] ∧ SqL K H a (xs.map V.str) ∧
  ∀ (ys : List Str) (p : Addr), ys.Perm xs → sortedS ys = true → H p = none → Q (.ref p) (upd H p (.lst (ys.map V.str)))
theorem cr_sortT {X : Cx} : CallR X (.builtin "sorted") (rSortT X.K) := by
  rintro pins s σ H vs us Q I r ⟨a, xs, rfl, hs, q⟩
  obtain ⟨its, rv, hl, hz⟩ := I.list hs
  obtain rfl := Vals.ref1 r
  refine sorted_strsAny hl.isList rv.strs (by rw [← rv.length]; exact hz) fun out ys h1 h2 h3 => ?_
  obtain ⟨ep, he⟩ := sortedAll_at s.heap its out
  have hy : (ys.map V.str).length ≤ sizeLine := by
    rw [List.length_map] at hz ⊢
    rw [h2.length_eq]
    exact hz
  refine ⟨.ref _, upd H (s.heap.objs.size + 1) (.lst (ys.map V.str)), ?_, rfl, q ys _ h2 h3 (I.hok.fresh (Nat.le_succ _))⟩
  exact I.laid (t' := s.toks) (fun _ _ => sortedAll_old) (Nat.le_succ _) ⟨hy, out.toList, ep, vals_of_strs h1, he⟩
/-! ### sorted(xs, key=len), texts -/
def noHeap : Heap := {}
theorem noHeap_get (b : Addr) : noHeap.get? b = none := rfl
/-- all objects but one -/
def allBut (h : Heap) (L : Addr) : List (Addr × Obj) := (List.range h.objs.size).filterMap fun b => if b = L then none else (h.get? b).map fun o => ((b : Addr), o)
theorem mem_allBut {h : Heap} {L : Addr} {p : Addr × Obj} : p ∈ allBut h L ↔ p.1 ≠ L ∧ h.get? p.1 = some p.2 := by
  unfold allBut
  rw [List.mem_filterMap]
  constructor
  · rintro ⟨b, _, hb⟩
    by_cases c : b = L
    · rw [if_pos c] at hb
      cases hb
    · rw [if_neg c] at hb
      cases e : h.get? b with
      | none => rw [e] at hb; cases hb
      | some o => rw [e] at hb; cases hb; exact ⟨c, e⟩
  · rintro ⟨h1, h2⟩
    exact ⟨p.1, List.mem_range.mpr (Heap.lt_size h2), by rw [if_neg h1, h2]; rfl⟩
theorem strs_nth {vs : List Value} {xs : List Str} (h : StrsAre vs xs) {i : Nat} {x : Str} (e : xs[i]? = some x) : ∃ t, vs[i]? = some (.str x t) := by
  induction h generalizing i with
  | nil => simp at e
  | cons y t r ih =>
    cases i with
    | zero => simp at e; subst e; exact ⟨t, rfl⟩
    | succ i => exact ih (by simpa using e)
theorem strs_len {vs : List Value} {xs : List Str} (h : StrsAre vs xs) : vs.length = xs.length := by
  induction h with
  | nil => rfl
  | cons y t r ih => simp [ih]
/-- the text of a value -/
def txtV : Value → Str
  | .str x _ => x
  | _ => Str.empty
theorem strs_txt {vs : List Value} {xs : List Str} (h : StrsAre vs xs) : vs.map txtV = xs := by
  induction h with
  | nil => rfl
  | cons y t r ih => simp [txtV, ih]
theorem strs_back : ∀ {vs : List Value}, (∀ v ∈ vs, ∃ x t, v = Value.str x t) → StrsAre vs (vs.map txtV)
  | [], _ => .nil
  | v :: vs, h => by
    obtain ⟨x, t, rfl⟩ := h v List.mem_cons_self
    exact .cons x t (strs_back fun u hu => h u (List.mem_cons_of_mem _ hu))
theorem strs_mem {vs : List Value} {xs : List Str} (h : StrsAre vs xs) : ∀ v ∈ vs, ∃ x t, v = Value.str x t := by
  induction h with
  | nil => exact fun v hv => nomatch hv
  | cons y t r ih =>
    intro v hv
    rcases List.mem_cons.mp hv with rfl | hv
    · exact ⟨y, t, rfl⟩
    · exact ih v hv
def lenZ (x : Str) : Int := (x.length : Int)
/-- what the sort by lengths gives -/
theorem zip_keys : ∀ {vs : List Value} {xs : List Str}, StrsAre vs xs → (xs.map lenZ).zip vs = vs.map fun v => (lenZ (txtV v), v) := fun {vs xs} h => by
  induction h with
  | nil => rfl
  | cons y t r ih => simp [txtV, ih]
theorem out_len {vs out : List Value} {xs : List Str} (hS : StrsAre vs xs) (h : KskOutSt false (xs.map lenZ) vs out) :
    StrsAre out (out.map txtV) ∧ (out.map txtV).Perm xs ∧ (out.map txtV).Pairwise (fun x y => x.length ≤ y.length) ∧ ∀ n : Nat, (out.map txtV).filter (fun x => x.length == n) = xs.filter (fun x => x.length == n) := by
  obtain ⟨ps, h1, rfl, h3, h4⟩ := h
  rw [zip_keys hS] at h1 h4
  have mem : ∀ p ∈ ps, p.1 = lenZ (txtV p.2) ∧ p.2 ∈ vs := fun p hp => by
    obtain ⟨v, hv, rfl⟩ := List.mem_map.mp (h1.mem_iff.mp hp)
    exact ⟨rfl, hv⟩
  have e1 : (ps.map Prod.snd).map txtV = ps.map fun p => txtV p.2 := by rw [List.map_map]; rfl
  have e2 : (vs.map fun v => ((lenZ (txtV v), v) : Int × Value)).map (fun p => txtV p.2) = xs := by
    rw [List.map_map, ← strs_txt hS]
    rfl
  refine ⟨strs_back fun v hv => ?_, ?_, ?_, fun n => ?_⟩
  · obtain ⟨p, hp, rfl⟩ := List.mem_map.mp hv
    exact strs_mem hS _ (mem p hp).2
  · rw [e1]
    have := h1.map fun p => txtV p.2
    rw [e2] at this
    exact this
  · rw [e1, List.pairwise_map]
    refine List.Pairwise.imp_of_mem ?_ h3
    intro p q hp hq hpq
    have hpq : p.1 ≤ q.1 := hpq
    rw [(mem p hp).1, (mem q hq).1] at hpq
    exact Int.ofNat_le.mp hpq
  · have h5 := congrArg (List.map fun p : Int × Value => txtV p.2) (h4 (n : Int))
    have f1 : ∀ l : List (Int × Value), (∀ p ∈ l, p.1 = lenZ (txtV p.2)) → (l.filter fun p => p.1 == (n : Int)).map (fun p => txtV p.2) = (l.map fun p => txtV p.2).filter fun x => x.length == n := fun l hl => by
      rw [List.filter_map]
      congr 1
      refine List.filter_congr fun p hp => ?_
      rw [hl p hp]
      show ((((txtV p.2).length : Nat) : Int) == (n : Int)) = ((txtV p.2).length == n)
      rw [Bool.eq_iff_iff, beq_iff_eq, beq_iff_eq]
      omega
    rw [f1 _ fun p hp => (mem p hp).1, f1 _ fun p hp => by
      obtain ⟨v, _, rfl⟩ := List.mem_map.mp hp
      rfl, e2, ← e1] at h5
    exact h5
def rSortLen (K : PySem.W.Frag) : List V → Hp → VK → Prop := fun vs H Q => ∃ (a : Addr) (xs : List Str), vs = [V.ref a] ∧ SqL K H a (xs.map V.str) ∧ (∀ x ∈ xs, x.length ≤ sizeLine) ∧
  ∀ (ys : List Str) (p : Addr), ys.Perm xs → ys.Pairwise (fun x y => x.length ≤ y.length) → (∀ n : Nat, ys.filter (fun x => x.length == n) = xs.filter (fun x => x.length == n)) → H p = none → Q (.ref p) (upd H p (.lst (ys.map V.str)))
theorem hok_at {P : Program} {w : World} {H : Hp} {h h' : Heap} {L D : Addr} {o : HO} (ok : HOk P w H h) (hL : H L = none) (hD : H D = none) (k : ∀ b u, b ≠ L → h.get? b = some u → h'.get? b = some u) (new : ObjOk P w (upd H D o) h' D o) : HOk P w (upd H D o) h' := by
  intro b u e
  by_cases c : b = D
  · subst c
    rw [upd_same] at e
    cases e
    exact new
  · rw [upd_ne c] at e
    have ne : ∀ b' u', H b' = some u' → b' ≠ D := fun b' u' q z => by rw [z, hD] at q; cases q
    refine (ok b u e).stay (fun b' u' hb q => k b' u' ?_ q) (fun b' q => by rw [upd_ne (ne _ _ q)]; exact q) (fun b' xs q => by rw [upd_ne (ne _ _ q)]; exact q)
    rintro rfl
    rcases hb with rfl | hb
    · rw [hL] at e; cases e
    · rw [hL] at hb; cases hb
theorem run_sortLen {X : Cx} {pins : List (Addr × Obj)} {s : Shared} {σ : L2.St} {H : Hp} {Q : VK} {vs : List V} {us : List Value} (I : Inv X pins σ H s) (r : Vals vs us) (h : rSortLen X.K vs H Q) :
    wpAny (model X.prog X.w) X.A (call (.builtin "sorted") us [(Str.ofString "key", .builtin "len")]) (EP X pins σ Q) X.xe s := by
  obtain ⟨a, xs, rfl, hs, hx, q⟩ := h
  obtain ⟨its, rv, hl, hz⟩ := I.list hs
  obtain rfl := Vals.ref1 r
  have hS := rv.strs
  have hlen := strs_len hS
  obtain ⟨m, hn, _⟩ := I.loc
  have F : Fr noHeap X.env.locals s.heap m := ⟨hn, fun b o e => (nomatch e), Nat.zero_le _⟩
  have N : News noHeap X.env.locals s.heap (allBut s.heap X.env.locals) := fun p hp => ⟨(mem_allBut.mp hp).2, (mem_allBut.mp hp).1, rfl⟩
  refine ksk_sortedSt (kz := xs.map lenZ) F N hl.isList (by rw [List.length_map, hlen]) (by rw [← rv.length]; exact hz) (ksk_s1 _ _) (fun _ => ksk_l1 _ _) (fun x => ksk_t4 "len" x) ?_ ?_
  · intro i v k hv hk h tk own F' N'
    rw [List.getElem?_map] at hk
    cases e : xs[i]? with
    | none => rw [e] at hk; cases hk
    | some x =>
      rw [e] at hk
      obtain rfl : lenZ x = k := Option.some.inj hk
      obtain ⟨t, ht⟩ := strs_nth hS e
      rw [hv] at ht
      obtain rfl : v = Value.str x t := Option.some.inj ht
      have hx2 := hx x (List.mem_of_getElem? e)
      have hsl : sizeLine = 16777216 := sizeLine_eq
      exact PySem.P.len_str (by omega) ⟨h, _, _, rfl, rfl, F', N'⟩
  · intro D h' tk out c F' N' hD ko
    obtain ⟨k1, k2, k3, k4⟩ := out_len hS ko
    have kD := N' _ List.mem_cons_self
    have keep : ∀ b u, b ≠ X.env.locals → s.heap.get? b = some u → h'.get? b = some u := fun b u hb e => (N' (b, u) (List.mem_cons_of_mem _ (mem_allBut.mpr ⟨hb, e⟩))).1
    have sD : s.heap.get? D = none := by
      cases e : s.heap.get? D with
      | none => rfl
      | some u => exact absurd (hD (D, u) (mem_allBut.mpr ⟨kD.2.1, e⟩)) (Nat.lt_irrefl _)
    have HD : H D = none := by
      cases e : H D with
      | none => rfl
      | some u =>
        obtain ⟨o, z⟩ := objOk_get (I.hok D u e)
        rw [sD] at z
        cases z
    have hy : ((out.toList.map txtV).map V.str).length ≤ sizeLine := by
      rw [List.length_map] at hz ⊢
      rw [k2.length_eq]
      exact hz
    have ok : HOk X.prog X.w (upd H D (.lst ((out.toList.map txtV).map V.str))) h' := hok_at I.hok I.free HD keep ⟨hy, out.toList, c, vals_of_strs k1, by rw [Array.toArray_toList]; exact kD.1⟩
    have neD : ∀ b u, H b = some u → b ≠ D := fun b u q z => by rw [z, HD] at q; cases q
    refine ⟨.ref D, upd H D (.lst ((out.toList.map txtV).map V.str)), ?_, rfl, q _ D k2 k3 k4 HD⟩
    refine I.step (ch := []) (fun b hb => absurd hb List.not_mem_nil) (fun b o h1 _ _ e _ => keep b o h1 e) (fun b o h1 _ _ e _ => ⟨o.slots, keep b o h1 e⟩) (fun b o _ e hb => ?_) (fun b o _ e => ?_)
      (fun b xs e => by rw [upd_ne (neD _ _ e)]; exact e) (fun b o u e => by rw [upd_ne (neD _ _ e)]; exact e) (fun b ps e => ⟨#[], by rw [upd_ne (neD _ _ e), e]; simp⟩) (fun m' hm' => ?_) ok I.bare
    · rw [upd_ne (fun z => by rw [z, sD] at e; cases e)]
      exact hb
    · by_cases c1 : b = X.env.locals
      · obtain ⟨o', es, ep, e2, _⟩ := F'.ns
        exact ⟨o', by rw [c1]; exact e2⟩
      · exact ⟨o, keep b o c1 e⟩
    · rw [hm'.eq_nsMap, ← hn.eq_nsMap]
      exact F'.ns
/-- sorted(e, key=len) -/
theorem pe_sortLen {X : Cx} {e : Expr} {t : TA} {p p2 kpos pos : Pos} (ha : PA X [e] t) (hg : Gl X "sorted") (hm : X.mg "sorted" = none) (hg2 : Gl X "len") (hm2 : X.mg "len" = none)
    (hs : backTo pos (starEach [e] X.env) = (false, eval e X.env) :: backTo pos (starEach [] X.env) := by rfl) (hpl : (backTo pos (starEach [e] X.env)).any (·.1) = false := by rfl)
    (hall : (backToKw pos (keywordEach [⟨some "key", .Name "len" p2, kpos⟩] X.env)).all (·.1.isSome) = true := by rfl) (hnone : (backToKw pos (keywordEach [⟨some "key", .Name "len" p2, kpos⟩] X.env)).any (·.1.isNone) = false := by rfl)
    (hks : (backToKw pos (keywordEach [⟨some "key", .Name "len" p2, kpos⟩] X.env)).filterMap (·.1) = [Str.ofString "key"] := by rfl) :
    PE X (.Call (.Name "sorted" p) [e] [⟨some "key", .Name "len" p2, kpos⟩] pos) (fun σ H Q => t σ H fun vs H1 => rSortLen X.K vs H1 Q) := by
  constructor
  intro pins s σ H Q I hh
  apply wpAny_Call_Name_kw
  refine ld_blt I hg hm (u := .builtin "sorted") (by decide +kernel) ?_ (by decide) (by decide)
  refine PyProof.Rows.callWith_kw (thn (ha.run pos pins s σ H (fun vs H1 => rSortLen X.K vs H1 Q) I hh) fun us s1 z => ?_) hs hpl hall hnone
  obtain ⟨vs, H1, J, rv, q⟩ := z
  rw [hks]
  show wpAny _ _ (evalAll [do let v ← eval (.Name "len" p2) X.env; standAt pos; pure v]) _ _ s1
  refine wpAny_evalAll_cons (wpAny_bind ?_)
  refine ld_blt J hg2 hm2 (u := .builtin "len") PySem.boot_len ?_ (by decide) (by decide)
  refine wpAny_bind (wpAny_standAt (wpAny_pure (wpAny_evalAll_nil ?_)))
  exact run_sortLen J rv q
end FK

/-! Own kit: sorted(xs) of pairs of an int and a text. -/
namespace FK
open PySem PySem.Spec PyProof.Rows L2 Srt
/-- the pair (x, y) stands there -/
def IsIS (h : Heap) (v : Value) (x : Int) (y : Str) : Prop := ∃ a o t u n, v = .ref a ∧ h.get? a = some o ∧ o.cls = .type "tuple" ∧ o.data = .seq #[.int x t, .str y u] n
theorem IsIS.keeps {h h' : Heap} {v : Value} {x : Int} {y : Str} (p : IsIS h v x y) (k : ∀ b o, h.get? b = some o → o.cls = .type "tuple" → h'.get? b = some o) : IsIS h' v x y := by
  obtain ⟨a, o, t, u, n, e, h1, h2, h3⟩ := p
  exact ⟨a, o, t, u, n, e, k _ _ h1 h2, h2, h3⟩
def lexS (p q : Int × Str) : Bool := if p.1 = q.1 then decide (p.2.cps.toList < q.2.cps.toList) else decide (p.1 < q.1)
theorem lexS_no {p q : Int × Str} : lexS p q = false ↔ (p.1 = q.1 ∧ ¬ p.2.cps.toList < q.2.cps.toList) ∨ (p.1 ≠ q.1 ∧ ¬ p.1 < q.1) := by
  unfold lexS
  by_cases c : p.1 = q.1
  · rw [if_pos c]
    simp [c]
  · rw [if_neg c]
    simp [c]
theorem lexS_yes {p q : Int × Str} : lexS p q = true ↔ (p.1 = q.1 ∧ p.2.cps.toList < q.2.cps.toList) ∨ p.1 < q.1 := by
  unfold lexS
  by_cases c : p.1 = q.1
  · rw [if_pos c]
    simp [c]
  · rw [if_neg c]
    simp [c]
theorem swoS {α : Type} (k : α → Int × Str) : SrtO.Swo fun v u => lexS (k v) (k u) := by
  refine ⟨fun x y h => ?_, fun x y z h1 h2 => ?_⟩
  · rcases lexS_yes.mp h with ⟨a, b⟩ | a
    · exact lexS_no.mpr (.inl ⟨a.symm, fun c => List.lt_irrefl _ (List.lt_trans b c)⟩)
    · exact lexS_no.mpr (.inr ⟨by omega, by omega⟩)
  · rcases lexS_no.mp h1 with ⟨a, b⟩ | ⟨a, b⟩ <;> rcases lexS_no.mp h2 with ⟨c, d⟩ | ⟨c, d⟩
    · exact lexS_no.mpr (.inl ⟨by omega, by first | exact List.not_lt.mpr (List.le_trans (List.not_lt.mp d) (List.not_lt.mp b)) | exact List.not_lt.mpr (List.le_trans (List.not_lt.mp b) (List.not_lt.mp d))⟩)
    · exact lexS_no.mpr (.inr ⟨by omega, by omega⟩)
    · exact lexS_no.mpr (.inr ⟨by omega, by omega⟩)
    · exact lexS_no.mpr (.inr ⟨by omega, by omega⟩)
section
variable {prog : Program} {w : World} {A : Around} {E : Value → Shared → Prop} {s : Shared}
theorem cmpS {vs : List Value} {k : Value → Int × Str} (hp : ∀ v ∈ vs, IsIS s.heap v (k v).1 (k v).2) : SrtO.Cmp prog w A s (tuples' true) (fun p => p.1 ∈ vs) (SrtO.lt2 fun v u => lexS (k v) (k u)) := by
  intro p q hm hm'
  have h1 := hp _ hm
  have h2 := hp _ hm'
  show wpAny (model prog w) A (keyLt' (tuples' true) p.1 q.1) (fun r s' => s' = s ∧ r = lexS (k p.1) (k q.1)) (fun _ _ => False) s
  unfold lexS
  generalize (k p.1).1 = x1 at h1 ⊢
  generalize (k p.1).2 = y1 at h1 ⊢
  generalize (k q.1).1 = x2 at h2 ⊢
  generalize (k q.1).2 = y2 at h2 ⊢
  obtain ⟨a1, o1, t1, u1, n1, e1, g1, c1, d1⟩ := h1
  obtain ⟨a2, o2, t2, u2, n2, e2, g2, c2, d2⟩ := h2
  rw [e1, e2]
  apply PySem.W.kat_lt g1 d1 g2 d2
  show PySem.W.KatLex prog w A true (decide (2 < 2)) _ [(.int x1 t1, .int x2 t2), (.str y1 u1, .str y2 u2)] 0 s
  apply PySem.W.kat_cons
  refine SeqAt.EqAt.int_int x1 t1 x2 t2 prog w _ _ ?_
  refine PySem.W.kat_go (fun z => ?_) fun z => ?_
  · have ex : x1 = x2 := by simpa using z
    apply PySem.W.kat_yes
    apply PySem.W.kat_cons
    refine SeqAt.EqAt.str_str y1 u1 y2 u2 prog w _ _ ?_
    refine PySem.W.kat_go (fun z2 => ?_) fun z2 => ?_
    · have ey : y1 = y2 := by simpa using z2
      refine PySem.W.kat_yes (PySem.W.kat_nil ⟨rfl, ?_⟩)
      rw [if_pos ex, ey, decide_eq_false (List.lt_irrefl _)]
      rfl
    · refine PySem.W.kat_no (PySem.W.kat_one _ _ (PyProof.Rows.lt_str ⟨rfl, ?_⟩))
      rw [if_pos ex]
  · have ex : ¬ x1 = x2 := by simpa using z
    refine PySem.W.kat_no (oneLt_int ⟨rfl, ?_⟩)
    rw [if_neg ex]
theorem firstsS {h : Heap} : ∀ {vs : List Value}, (∀ v ∈ vs, ∃ x y, IsIS h v x y) → ∃ fs : List Value, PySem.W.KatTups h vs fs ∧ fs.length = vs.length ∧ ∀ f ∈ fs, ∃ x t, f = Value.int x t
  | [], _ => ⟨[], PySem.W.KatTups.nil, rfl, fun _ hm => by simp at hm⟩
  | v :: vs, hp => by
    obtain ⟨fs, i1, i2, i3⟩ := firstsS (vs := vs) fun u hu => hp u (List.mem_cons_of_mem _ hu)
    obtain ⟨x, y, a, o, t, u, n, rfl, ho, hc, hd⟩ := hp v List.mem_cons_self
    refine ⟨.int x t :: fs, PySem.W.KatTups.cons ho hc hd rfl i1, by simp [i2], fun f hf => ?_⟩
    rcases List.mem_cons.mp hf with rfl | hf
    · exact ⟨x, t, rfl⟩
    · exact i3 f hf
theorem sortableS {a : Addr} {vs : List Value} {k : Value → Int × Str} (h0 : 0 < vs.length) (hp : ∀ v ∈ vs, IsIS s.heap v (k v).1 (k v).2) (ha : ∀ o, s.heap.get? a = some o → o.cls ≠ .type "tuple") : SrtO.SortableO prog w A s a vs fun v u => lexS (k v) (k u) := by
  intro h1 kp
  have hp1 : ∀ v ∈ vs, IsIS h1 v (k v).1 (k v).2 := fun v hv => (hp v hv).keeps fun b o e c => kp b o (fun z => ha o (by rw [← z]; exact e) c) e
  obtain ⟨fs, i1, i2, i3⟩ := firstsS fun v hv => ⟨_, _, hp1 v hv⟩
  refine ⟨tuples' true, fun Q E hq => ?_, cmpS hp1⟩
  refine PySem.W.kat_kind (T := .type "int") i1 (by omega) (fun f hf => ?_) (by rfl) ?_
  · obtain ⟨x, t, rfl⟩ := i3 f hf
    exact PySem.W.Looks.now
  · rw [show (Value.type "int" != Value.type "tuple") = true by decide +kernel]
    exact hq
end
/-- sorted(xs), xs a list of pairs of an int and a text, told by k -/
def rSortIS (K : PySem.W.Frag) : List V → Hp → VK → Prop := fun vs H Q => ∃ (a : Addr) (xs : List V) (k : V → Int × Str), vs = [V.ref a] ∧ SqL K H a xs ∧ (∀ x ∈ xs, ∃ t, x = V.ref t ∧ H t = some (.tup [.int (k x).1, .str (k x).2])) ∧
  ∀ ys p, ys.Perm xs → ys.Pairwise (fun x y => lexS (k y) (k x) = false) → H p = none → Q (.ref p) (upd H p (.lst ys))
theorem cr_sortIS {X : Cx} : CallR X (.builtin "sorted") (rSortIS X.K) := by
  rintro pins s σ H vs us Q I r ⟨a, xs, k, rfl, hs, hx, q⟩
  obtain ⟨its, rv, hl, hz⟩ := I.list hs
  obtain rfl := Vals.ref1 r
  obtain ⟨e1, e2⟩ := refs_back rv fun x m => by
    obtain ⟨t, e, _⟩ := hx x m
    exact ⟨t, e⟩
  have hp : ∀ v ∈ its, IsIS s.heap v (k (backV v)).1 (k (backV v)).2 := fun v hv => by
    obtain ⟨t, rfl⟩ := e2 v hv
    have hm : V.ref t ∈ xs := by rw [e1]; exact List.mem_map.mpr ⟨_, hv, rfl⟩
    obtain ⟨t2, e, ht⟩ := hx _ hm
    cases e
    obtain ⟨_, jts, r2, o, ho, hc, n, hd⟩ := I.hok _ _ ht
    obtain ⟨w1, w2, rfl, ri, rj⟩ := vals2 r2
    obtain ⟨t1, rfl⟩ := ri
    obtain ⟨t2, rfl⟩ := rj
    exact ⟨t, o, t1, t2, n, rfl, ho, hc, hd⟩
  refine SrtO.sorted_ord (swoS fun u => k (backV u)) hl.isList (by rw [← rv.length]; exact hz) (fun h2 h1 b hb kk => ?_) fun out s1 s2 => ?_
  · refine sortableS (s := { s with heap := h1 }) (k := fun u => k (backV u)) (by omega) (fun v hv => (hp v hv).keeps fun b o e _ => (kk b o e).2) fun o e => ?_
    have e3 : some o = some (seqObj "list" its.toArray 0) := e.symm.trans hb
    cases e3
    exact fun c => absurd (Value.type.inj c) (by decide)
  · have h3 : ∀ u ∈ out, ∃ a, u = Value.ref a := fun u hu => e2 u (s2.perm.mem_iff.mp hu)
    obtain ⟨ep, he⟩ := sortedAll_at s.heap its out.toArray
    have pm : (out.map backV).Perm xs := by rw [e1]; exact s2.perm.map backV
    have hy : (out.map backV).length ≤ sizeLine := by rw [pm.length_eq]; exact hz
    refine ⟨.ref _, upd H (s.heap.objs.size + 1) (.lst (out.map backV)), I.laid (t' := s.toks) (fun _ _ => sortedAll_old) (Nat.le_succ _) ⟨hy, out, ep, vals_back h3, he⟩, rfl, q _ _ pm ?_ (I.hok.fresh (Nat.le_succ _))⟩
    exact List.pairwise_map.mpr s1
end FK

/-! Own kit: sum of a tuple of ints. -/
namespace FK
open PySem PySem.Spec PyProof.Rows L2
section
variable {prog : Program} {w : World} {A : Around} {E : Value → Shared → Prop} {s : Shared} {l : Addr} {xs : Array (Int × Tok)}
theorem sum_tupG {Q : Value → Shared → Prop} (hh : A.handled = none) (hl : s.heap.IsTuple l (intItems xs))
    (h : ∀ h' tk t', (∀ b o, s.heap.get? b = some o → h'.get? b = some o) → Q (.int (preSum (numAt xs) xs.size) t') { s with heap := h', toks := tk }) :
    wpAny (model prog w) A (call (.builtin "sum") [.ref l]) Q E s := by
  have lt : l < s.heap.objs.size := by
    obtain ⟨o, ho, _⟩ := hl
    exact Heap.lt_size ho
  refine call_sum_walkG (wpAny_pyIter_tuple hl ?_)
  refine ⟨_, _, _, _, _, _, numAt xs, rfl, Walks.tuple (A := A.in1) hh s.heap.objs.size l (Nat.ne_of_lt lt) (intItems xs), ⟨⟨_, Heap.get?_push_size _ rfl, rfl, rfl⟩, hl.push _⟩, fun c hc => ?_, (fun _ _ => intItems_at), fun h' tk t' hk => ?_⟩
  · show c < (s.heap.push _).objs.size
    rw [Heap.size_push]
    rcases List.mem_cons.mp hc with rfl | hc
    · exact Nat.lt_succ_self _
    · rw [List.mem_singleton.mp hc]
      exact Nat.lt_succ_of_lt lt
  · have := h h' tk t' fun b o e => hk b o (fun hm => by
      rw [List.mem_singleton.mp hm] at e
      exact Nat.lt_irrefl _ (Heap.lt_size e)) (Heap.get?_push_of_some _ e)
    simpa [intItems] using this
end
def rSumT (K : PySem.W.Frag) : List V → Hp → VK → Prop := fun vs H Q => ∃ (a : Addr) (ns : List Int), vs = [V.ref a] ∧ SqT K H a (ns.map V.int) ∧ Q (.int ns.sum) H
theorem cr_sumT {X : Cx} (hc : X.calm = true) : CallR X (.builtin "sum") (rSumT X.K) := by
  intro pins s σ H vs us Q I r h
  obtain ⟨a, ns, rfl, hs, q⟩ := h
  obtain ⟨its, rv, hl, _⟩ := I.tuple hs
  rw [Vals.ref1 r]
  have hi := rv.ints
  obtain ⟨xs, e⟩ := hi.allInts.items
  have hn : numsOf (intItems xs).toList = ns := by rw [← e]; exact hi.numsOf
  rw [nums_intItems] at hn
  rw [e] at hl
  refine sum_tupG (I.ok.hd hc) (show s.heap.IsTuple a _ from hl) fun h' tk t' hk => ⟨.int _, H, I.kept hk, ⟨_, rfl⟩, ?_⟩
  rw [preSum_eq, List.take_of_length_le (by simp), hn]
  exact q
end FK

/-! x in t, t a tuple of data of any depth. -/
namespace FK
open PySem PySem.Spec PyProof.Rows L2
theorem units65 {k : Nat} {A : Around} (r : Room k A) : A.units + 65 < cLine := by have := r.un; omega
section
variable {X : Cx}
def rInT (K : PySem.W.Frag) : R2 := fun x y H Q => ∃ d ds, Dp K H x d ∧ Dp K H y (.tuple ds) ∧ SeqAt.shaped d = true ∧ SeqAt.shaped (.list ds) = true ∧ Q (.bl (ds.any fun z => PyData.eqv z d)) H
def rNotInT (K : PySem.W.Frag) : R2 := fun x y H Q => ∃ d ds, Dp K H x d ∧ Dp K H y (.tuple ds) ∧ SeqAt.shaped d = true ∧ SeqAt.shaped (.list ds) = true ∧ Q (.bl (!ds.any fun z => PyData.eqv z d)) H
theorem op_inT (hu : X.A.units + 65 < cLine) : OpR X (compareOp .In) (rInT X.K) := by
  intro pins s σ H x y v u Q I rx ry h
  obtain ⟨d, ds, hd, he, sd, se, q⟩ := h
  obtain ⟨as, r1⟩ := Dp.reads I d x v hd rx
  obtain ⟨bs, r2⟩ := Dp.reads I (.tuple ds) y u he ry
  exact SeqAt.in_tuple_reads r2 r1 (SeqAt.canLay_of_shaped se) (SeqAt.canLay_of_shaped sd) (room_in_shaped sd hu) ⟨.bl _, H, I, rfl, q⟩
theorem op_notInT (hu : X.A.units + 65 < cLine) : OpR X (compareOp .NotIn) (rNotInT X.K) := by
  intro pins s σ H x y v u Q I rx ry h
  obtain ⟨d, ds, hd, he, sd, se, q⟩ := h
  obtain ⟨as, r1⟩ := Dp.reads I d x v hd rx
  obtain ⟨bs, r2⟩ := Dp.reads I (.tuple ds) y u he ry
  exact SeqAt.notIn_tuple_reads r2 r1 (SeqAt.canLay_of_shaped se) (SeqAt.canLay_of_shaped sd) (room_in_shaped sd hu) ⟨.bl _, H, I, rfl, q⟩
end
section
variable {X : Cx}
def rCntS (K : PySem.W.Frag) : V → List V → Hp → VK → Prop := fun x xs H Q => ∃ (p : Addr) (ys : List Str) (k : Str), x = .ref p ∧ xs = [.str k] ∧ SqL K H p (ys.map V.str) ∧ Q (.int (countIn (.str k) (ys.map PyData.str))) H
/-- l.count(x) of texts -/
theorem mt_lcountS : MtR X "list.count" (rCntS X.K) := by
  intro pins s σ H x xs v us Q I rx rxs h
  obtain ⟨p, ys, k, rfl, rfl, hs, q⟩ := h
  cases rx
  obtain ⟨u, rfl, ru⟩ := rxs.one
  obtain ⟨t, rfl⟩ := ru
  obtain ⟨its, rv, hl, hlen⟩ := I.list hs
  exact count_list_strs hl.isList rv.strs ⟨.int _, H, I.tok _, ⟨s.toks, rfl⟩, q⟩
end
section
variable {K : PySem.W.Frag} {tl : TE} {g : TG} {tt : L2.TT} {te : TE} {vs : List Nat} {σ : L2.St} {H H1 : Hp} {Q : VK} {wi : TI} {J : It}
/-- what a comprehension goes over, made in its head -/
theorem lc_lst (h : tl σ H fun x H1 => ∃ a, x = .ref a ∧ (∃ xs, SqL K H1 a xs) ∧ tLc (fun _ _ R => R (Itl K a) H1) g tt te vs σ H Q) : tLc (iList K tl) g tt te vs σ H Q := h
theorem lc_str (h : tl σ H fun x H1 => ∃ z, x = .str z ∧ tLc (fun _ _ R => R (Its z) H1) g tt te vs σ H Q) : tLc (iStr tl) g tt te vs σ H Q := h
theorem lc_rng1 {ta : TA} (h : ta σ H fun xs H1 => ∃ m, xs = [.int m] ∧ -2 ^ 62 ≤ m ∧ m < 2 ^ 62 ∧ tLc (fun _ _ R => R (Itr 0 m.toNat) H1) g tt te vs σ H Q) : tLc (iRng1 ta) g tt te vs σ H Q := h
theorem lc_at (hw : ∀ R : It → Hp → Prop, R J H1 → wi σ H R) (h : tLc (fun _ _ R => R J H1) g tt te vs σ H Q) : tLc wi g tt te vs σ H Q := hw _ h
theorem for_lst {tb : TS} {D : Ends} (h : tl σ H fun x H1 => ∃ a, x = .ref a ∧ (∃ xs, SqL K H1 a xs) ∧ tFor (fun _ _ R => R (Itl K a) H1) g tb D σ H) : tFor (iList K tl) g tb D σ H := h
theorem for_str {tb : TS} {D : Ends} (h : tl σ H fun x H1 => ∃ z, x = .str z ∧ tFor (fun _ _ R => R (Its z) H1) g tb D σ H) : tFor (iStr tl) g tb D σ H := h
/-- a dict comprehension over a walk -/
theorem dc_it {n : Nat} {G : Hp → Prop} {Y : Nat → Hp → V → Hp → Prop} (w : Walk J n G Y) {tk tv : TE} {D : Addr} {Qd : Hp → Prop} (Pv : Nat → Hp → Prop) (h0 : Pv 0 (upd H1 D (.dK []))) (hG : ∀ i H, i ≤ n → Pv i H → G H)
    (hs : ∀ i x H H', i < n → Pv i H → Y i H x H' → g x (wipe σ vs) H' fun σ2 H2 => wipe σ2 vs = wipe σ vs ∧ tt σ2 H2 fun b H3 =>
      if b = true then tk σ2 H3 fun y H4 => tv σ2 H4 fun z H5 => ∃ kvs k, y = kV k ∧ H5 D = some (.dK kvs) ∧ kvs.length < sizeLine ∧ Pv (i + 1) (upd H5 D (.dK (putK kvs k z))) else Pv (i + 1) H3) (hd : ∀ H, Pv n H → Qd H) :
    ∃ W : Nat → Nat → Hp → Prop, (∃ m, W 0 m (upd H1 D (.dK []))) ∧ ∀ i m H, W i m H →
      (J.stop i H ∧ Qd H) ∨ (J.go i H ∧ ∃ Nx : Hp → Prop, (∀ H', Nx H' → ∃ m', m' < m ∧ W (i + 1) m' H') ∧ ∀ x H', J.yld i H x H' → g x (wipe σ vs) H' fun σ2 H2 => wipe σ2 vs = wipe σ vs ∧ tt σ2 H2 fun b H3 =>
        if b = true then tk σ2 H3 fun y H4 => tv σ2 H4 fun z H5 => ∃ kvs k, y = kV k ∧ H5 D = some (.dK kvs) ∧ kvs.length < sizeLine ∧ Nx (upd H5 D (.dK (putK kvs k z))) else Nx H3) := by
  refine ⟨fun i m H => m = n - i ∧ i ≤ n ∧ Pv i H, ⟨n, by simp, Nat.zero_le _, h0⟩, ?_⟩
  rintro i m H ⟨rfl, hi, p⟩
  have q := hG i H hi p
  by_cases hlt : i < n
  · exact .inr ⟨w.goes i H hlt q, Pv (i + 1), fun H' p' => ⟨n - (i + 1), by omega, rfl, hlt, p'⟩, fun x H' y => hs i x H H' hlt p (w.yields i H x H' hlt q y)⟩
  · have e : i = n := by omega
    subst e
    exact .inl ⟨w.stops H q, hd H p⟩
/-- one more, if it is not there -/
def addS {α : Type} [DecidableEq α] (l : List α) (a : α) : List α := if a ∈ l then l else l ++ [a]
theorem mem_addS {α : Type} [DecidableEq α] {l : List α} {a b : α} : b ∈ addS l a ↔ b ∈ l ∨ b = a := by
  unfold addS
  split
  · exact ⟨.inl, fun h => h.elim id fun e => by rw [e]; assumption⟩
  · simp
theorem nd_addS {α : Type} [DecidableEq α] {l : List α} {a : α} (h : l.Nodup) : (addS l a).Nodup := by
  unfold addS
  split
  · exact h
  · refine List.nodup_append.mpr ⟨h, List.pairwise_singleton _ _, fun p hp q hq => ?_⟩
    rw [List.mem_singleton.mp hq]
    intro e
    rw [e] at hp
    contradiction
theorem len_addS {α : Type} [DecidableEq α] {l : List α} {a : α} : (addS l a).length ≤ l.length + 1 := by
  unfold addS
  split
  · omega
  · simp
theorem putK_addS {α κ : Type} [DecidableEq α] [DecidableEq κ] {f : α → κ} (hf : ∀ a b, f a = f b → a = b) (v : V) (l : List α) (a : α) : putK (l.map fun x => (f x, v)) (f a) v = (addS l a).map fun x => (f x, v) := by
  unfold putK addS
  have e : ((l.map fun x => (f x, v)).any fun kv => decide (kv.1 = f a)) = decide (a ∈ l) := by
    rw [Bool.eq_iff_iff, List.any_eq_true, decide_eq_true_iff]
    constructor
    · rintro ⟨x, hx, h⟩
      obtain ⟨y, hy, rfl⟩ := List.mem_map.mp hx
      rw [← hf _ _ (of_decide_eq_true h)]
      exact hy
    · intro h
      exact ⟨_, List.mem_map.mpr ⟨a, h, rfl⟩, decide_eq_true rfl⟩
  rw [e]
  by_cases c : a ∈ l
  · rw [if_pos (decide_eq_true c), if_pos c]
    refine (List.map_congr_left fun kv hkv => ?_).trans (List.map_id _)
    obtain ⟨y, hy, rfl⟩ := List.mem_map.mp hkv
    show (if f y = f a then (f y, v) else (f y, v)) = _
    split <;> rfl
  · rw [if_neg (by simp [c]), if_neg c, List.map_append]
    rfl
/-- the letters of a text as items -/
theorem walk_strY {z : Str} : Walk (Its z) (z.cps.toList.map fun c => V.str ⟨#[c]⟩).length (fun _ => True) (YAt (z.cps.toList.map fun c => V.str ⟨#[c]⟩)) := by
  have e : (z.cps.toList.map fun c => V.str ⟨#[c]⟩).length = z.cps.size := by simp
  rw [e]
  refine (walk_str (z := z)).mono (fun _ _ => trivial) ?_
  rintro i H x H' _ _ ⟨rfl, c, hc, rfl⟩
  exact ⟨rfl, by rw [List.getElem?_map, Array.getElem?_toList, hc]; rfl⟩
theorem walk_natY {n : Nat} : Walk (Itr 0 n) ((List.range n).map fun k => V.int (k : Nat)).length (fun _ => True) (YAt ((List.range n).map fun k => V.int (k : Nat))) := by
  have e : ((List.range n).map fun k => V.int (k : Nat)).length = n := by simp
  rw [e]
  refine (walk_range (lo := 0) (n := n)).mono (fun _ _ => trivial) ?_
  rintro i H x H' hi _ ⟨rfl, rfl⟩
  exact ⟨rfl, by rw [List.getElem?_map, List.getElem?_range hi]; simp⟩
end
end FK

/-! list(d.values()); d != {}. -/
namespace FK
open PySem PySem.Spec PyProof.Rows L2
section
variable {X : Cx} {e : Expr} {te : TE} {p pos apos cpos : Pos}
def tListVals (td : TE) : TE := fun σ H Q => td σ H fun x H1 => ∃ d kvs, x = V.ref d ∧ H1 d = some (.dK kvs) ∧ ∀ q, H1 q = none → Q (.ref q) (upd H1 q (.lst (kvs.map fun kv => kv.2)))
theorem pe_listVals (hc : X.calm = true) (he : PE X e te) (hg : Gl X "list") (hm : X.mg "list" = none) (hv : bootBuiltins "list" = some (.type "list")) (hbase : attributeBase e "values" X.env (eval e X.env) = eval e X.env := by rfl) (hline : (apos.endLine == cpos.line) = true := by rfl)
    (hs : starEach [.Call (.Attribute e "values" apos) [] [] cpos] X.env = (false, eval (.Call (.Attribute e "values" apos) [] [] cpos) X.env) :: starEach [] X.env := by rfl) :
    PE X (.Call (.Name "list" p) [.Call (.Attribute e "values" apos) [] [] cpos] [] pos) (tListVals te) := by
  refine ⟨fun pins s σ H Q I hq => ?_⟩
  refine wpAny_Call_Name_kw (ld_blt I hg hm hv ?_)
  refine PyProof.Rows.callWith_type1 ?_ hs rfl
  rw [hs]
  show wpAny _ _ (spliced ((false, eval (.Call (.Attribute e "values" apos) [] [] cpos) X.env) :: backTo pos (starEach [] X.env))) _ _ s
  refine Calls.spliced_cons ?_
  refine wpAny_Call_method (T := "dict") (id := "dict.values") hbase rfl hline F.plainAttrs_dict F.slot_dict_values F.type_dict_values (thn (he.run pins s σ H _ I hq) fun u s1 ⟨x, H1, I1, rx, d, kvs, ex, hd, q⟩ => ?_)
  subst ex
  obtain rfl : u = Value.ref d := rx
  obtain ⟨hz, hs0, vs, kv, hdo⟩ := I1.hok d _ hd
  obtain ⟨ep, hat⟩ := hdo.dictAt
  have lk : kvs.length = vs.length := Paired.length kv
  have I2 : Inv X pins σ H1 { s1 with heap := s1.heap.push { cls := .type "dict_values", data := .fields #[.ref d] } } := I1.kept (t' := s1.toks) fun b ob q => Heap.get?_push_of_some _ q
  refine ⟨hdo.typeIs, hdo.mapOf.noDict, ?_⟩
  show wpAny _ _ (callWith cpos (.builtin "dict.values") [.ref d] [] []) _ X.xe s1
  refine method_meetsIn F.slot_dict_values F.entry_dict_values rfl (PySem.evalArgs_none ⟨rfl, hdo.typeIs, F.args_dict_values_1 _, _, meets_dict_values (mixKind X.prog X.w) d hs0, ⟨vs, hdo⟩, ?_⟩)
  refine Calls.spliced_nil ?_
  refine PySem.W.kdl_call (PySem.W.kdl_values (knd := mixKind X.prog X.w) (kvs := vs) (ep := ep)) (I1.ok.hd hc) ⟨⟨_, Heap.get?_push_size _ rfl, rfl, rfl⟩, hat.push _⟩ (by rw [← lk]; exact hz) fun h' tk acc' c' hkeep hS hacc => ?_
  refine ⟨.ref _, upd H1 _ (.lst (kvs.map fun kv => kv.2)), I2.laid hkeep (Nat.le_refl _) (show ObjOk X.prog X.w _ _ _ (.lst (kvs.map fun kv => kv.2)) from ⟨?_, acc'.toList, c', ?_, ?_⟩), rfl, q _ (I2.hok.fresh (Nat.le_refl _))⟩
  · rw [List.length_map]; exact hz
  · have el : acc'.toList.length = acc'.size := by simp
    refine vals_of_at (by rw [List.length_map, el, hacc.1, lk]) fun j x w h1 h2 => ?_
    obtain ⟨k, hk⟩ := hacc.2 j w (by rw [← Array.getElem?_toList]; exact h2)
    obtain ⟨x2, g1, g2⟩ := KV.at' kv hk
    rw [List.getElem?_map, g1] at h1
    cases h1
    exact g2
  · rw [Array.toArray_toList]; exact hS
def rNeE : R2 := fun x y H Q => ∃ a b ks, x = .ref a ∧ y = .ref b ∧ H a = some (.dK ks) ∧ H b = some (.dK []) ∧ Q (.bl (!ks.isEmpty)) H
theorem op_neE (hu : X.A.units < cLine) : OpR X (compareOp .NotEq) rNeE := by
  intro pins s σ H x y v u Q I rx ry h
  obtain ⟨a, b, ks, rfl, rfl, ea, eb, q⟩ := h
  cases ks with
  | nil => exact op_ne_dictA hu pins s σ H _ _ v u Q I rx ry ⟨a, b, [], [], rfl, rfl, ea, eb, rfl, (fun _ h => nomatch h), q⟩
  | cons k ks =>
    obtain rfl : v = Value.ref a := rx
    obtain rfl : u = Value.ref b := ry
    obtain ⟨_, ya, va, ra, da⟩ := (show ObjOk X.prog X.w H s.heap a (.dK (k :: ks)) from I.hok a _ ea)
    obtain ⟨_, yb, vb, rb, db⟩ := (show ObjOk X.prog X.w H s.heap b (.dK []) from I.hok b _ eb)
    have hl : ¬ va.length = vb.length := by rw [← Paired.length ra, ← Paired.length rb]; simp
    exact PySem.W.keq_ne (knd := mixKind X.prog X.w) (r := true) ya yb da db hu (fun h => absurd h hl) ⟨.bl _, H, I, by rw [beq_eq_false_iff_ne.mpr hl]; rfl, q⟩
end
end FK

/-! What the program's numbers are and how large they grow: the bends, the depths. -/
namespace Cox
/-- every number on the way of a sine's recurrence is small -/
def sineOk (double : Int) (bits k : Nat) : Bool :=
  (List.range (k + 1)).all fun j => match sineF double (2 ^ bits) j with
    | (b, v, sb, sl) => decide (b.natAbs < 2 ^ (bits + 60)) && (decide (v.natAbs < 2 ^ (bits + 60)) && (decide (sb.natAbs < 2 ^ (bits + 60)) && decide (sl.natAbs < 2 ^ (bits + 60))))
/-- the search for a bend comes to its end within so many steps, by positive slopes -/
def bendOk (order bits : Nat) : Nat → Int → Bool
  | 0, _ => false
  | f + 1, bend => match sineF bend (2 ^ bits) (order - 1) with
    | (_, value, _, slope) => decide (bend.natAbs < 2 ^ (bits + 2)) && (sineOk bend bits (order - 1) && (decide (0 < slope) && (if value * 2 ^ bits / slope ≤ 0 then true else bendOk order bits f (bend - value * 2 ^ bits / slope))))
def bendsOk (bits : Nat) : Bool := (List.range 13).all fun n => (n == 0 || n == 1 || bendOk n bits 40 (2 * 2 ^ bits)) && decide ((bendF n bits).natAbs ≤ 2 * 2 ^ bits)
theorem bends_ok : ∀ s : Fin 8, bendsOk (256 * (s.1 + 1) + 32) = true := by decide +kernel
theorem bendOk_of {s n : Nat} (hs : s < 8) (hn : okOrd n) (h0 : n ≠ 0) : bendOk n (256 * (s + 1) + 32) 40 (2 * 2 ^ (256 * (s + 1) + 32)) = true := by
  have h := bends_ok ⟨s, hs⟩
  have := List.all_eq_true.mp h n (List.mem_range.mpr (by rcases hn with h | h <;> omega))
  rw [Bool.and_eq_true] at this
  have h1 : n ≠ 1 := by rcases hn with h | h <;> omega
  simpa [h0, h1] using this.1
theorem bend_abs {s n : Nat} (hs : s < 8) (hn : okOrd n) : (bendF n (256 * (s + 1) + 32)).natAbs ≤ 2 * 2 ^ (256 * (s + 1) + 32) := by
  have h := bends_ok ⟨s, hs⟩
  have := List.all_eq_true.mp h n (List.mem_range.mpr (by rcases hn with h | h <;> omega))
  rw [Bool.and_eq_true] at this
  exact of_decide_eq_true this.2
/-- how large depths grow -/
theorem step_abs {b d e : Int} {T M : Nat} (hT : 0 < T) (hb : b.natAbs ≤ 2 * T) (hd : d.natAbs ≤ M) (he : e.natAbs ≤ M) (hM : 0 < M) : (d + b * e / (T : Int)).natAbs ≤ 4 * M := by
  have h1 : (b * e).natAbs ≤ (2 * M) * T := by
    rw [Int.natAbs_mul]
    have := Nat.mul_le_mul hb he
    calc b.natAbs * e.natAbs ≤ 2 * T * M := this
      _ = (2 * M) * T := by rw [Nat.mul_assoc, Nat.mul_comm T M, ← Nat.mul_assoc]
  have hT' : (0 : Int) < (T : Int) := by omega
  have up : b * e / (T : Int) ≤ 2 * M := by
    have h3 : b * e ≤ (2 * M : Nat) * (T : Int) := by
      have : b * e ≤ ((b * e).natAbs : Int) := by omega
      have h4 : ((b * e).natAbs : Int) ≤ (((2 * M) * T : Nat) : Int) := by omega
      rw [Int.natCast_mul] at h4
      omega
    have := Int.ediv_le_ediv hT' h3
    rw [Int.mul_ediv_cancel _ (by omega)] at this
    omega
  have lo : -(2 * M : Int) ≤ b * e / (T : Int) := by
    have h3 : (-(2 * M : Int)) * (T : Int) ≤ b * e := by
      have : -((b * e).natAbs : Int) ≤ b * e := by omega
      have h4 : ((b * e).natAbs : Int) ≤ (((2 * M) * T : Nat) : Int) := by omega
      rw [Int.natCast_mul] at h4
      rw [Int.neg_mul]
      have e5 : ((2 * M : Nat) : Int) = 2 * (M : Int) := by omega
      rw [e5] at h4
      omega
    exact Int.le_ediv_of_mul_le hT' h3
  omega
theorem dep_abs {B : Fin 3 → Fin 3 → Int} {T : Nat} (hT : 0 < T) (hB : ∀ i j, i ≠ j → (B i j).natAbs ≤ 2 * T) : ∀ (w : W) (j : Fin 3), (depI B (T : Int) w j).natAbs ≤ T * 4 ^ w.length
  | [], j => by
    show ((T : Int)).natAbs ≤ T * 4 ^ 0
    omega
  | i :: w, j => by
    have ih := dep_abs hT hB w
    have p : 0 < T * 4 ^ w.length := Nat.mul_pos hT (Nat.pow_pos (by decide))
    have e : T * 4 ^ (i :: w).length = 4 * (T * 4 ^ w.length) := by
      rw [List.length_cons, Nat.pow_succ, Nat.mul_comm _ 4, ← Nat.mul_assoc, Nat.mul_comm T 4, Nat.mul_assoc]
    rw [e]
    show (stepI B (T : Int) i (depI B (T : Int) w) j).natAbs ≤ _
    unfold stepI
    split
    · have := ih i
      rw [Int.natAbs_neg]
      omega
    · rename_i c
      exact step_abs hT (hB i j (fun z => c z.symm)) (ih j) (ih i) p
theorem tri_abs {a b c : Int} {M : Nat} (ha : a.natAbs ≤ M) (hb : b.natAbs ≤ M) (hc : c.natAbs ≤ M) : ∀ i j : Fin 3, i ≠ j → (tri 0 a b c i j).natAbs ≤ M := by
  intro i j hij
  unfold tri
  rw [if_neg hij]
  split
  · exact ha
  · split
    · exact hb
    · exact hc
end Cox

/-! Words of letters as texts. -/
namespace Cox
open PySem L2
def wS (w : W) : Str := ⟨(w.map fun i => 48 + i.1).toArray⟩
theorem wS_len (w : W) : (wS w).length = w.length := by
  show ((w.map fun i => 48 + i.1).toArray).size = _
  simp
theorem wS_list (w : W) : (wS w).cps.toList = w.map fun i => 48 + i.1 := by
  show ((w.map fun i => 48 + i.1).toArray).toList = _
  simp
theorem str_ext {x y : Str} (h : x.cps.toList = y.cps.toList) : x = y := by
  cases x with | mk a => cases y with | mk b =>
  have : a = b := Array.toList_inj.mp h
  rw [this]
theorem wS_app (u v : W) : wS u ++ wS v = wS (u ++ v) := by
  apply str_ext
  show ((wS u).cps ++ (wS v).cps).toList = _
  rw [Array.toList_append, wS_list, wS_list, wS_list, List.map_append]
theorem wS_inj {u v : W} (h : wS u = wS v) : u = v := by
  have h2 : u.map (fun i : Fin 3 => 48 + i.1) = v.map fun i => 48 + i.1 := by rw [← wS_list, ← wS_list, h]
  exact List.map_inj_right (fun a b e => Fin.ext (by omega)) |>.mp h2
theorem wS_rev (w : W) : FK.revS (wS w) = wS w.reverse := by
  apply str_ext
  show ((wS w).cps.toList.reverse.toArray).toList = _
  rw [wS_list, wS_list, List.map_reverse]
theorem wS_nil : wS [] = "" := by decide +kernel
theorem wS_one (i : Fin 3) : wS [i] = ⟨#[48 + i.1]⟩ := rfl
theorem wS_at {w : W} {k : Nat} {c : Nat} (h : (wS w).cps[k]? = some c) : ∃ i, w[k]? = some i ∧ (⟨#[c]⟩ : Str) = wS [i] := by
  rw [← Array.getElem?_toList, wS_list, List.getElem?_map] at h
  cases e : w[k]? with
  | none => rw [e] at h; cases h
  | some i => rw [e] at h; cases h; exact ⟨i, rfl, rfl⟩
theorem let3 (i : Fin 3) : wS [i] = "0" ∧ i = 0 ∨ wS [i] = "1" ∧ i = 1 ∨ wS [i] = "2" ∧ i = 2 := by
  revert i
  decide +kernel
theorem cutS_wS (w : W) (lo hi : Option Int) : cutS (wS w) lo hi = wS ((w.drop (HT.sIx w.length 0 lo)).take (HT.sIx w.length w.length hi - HT.sIx w.length 0 lo)) := by
  apply str_ext
  unfold cutS
  show (List.toArray _).toList = _
  rw [wS_list, wS_list, wS_len, List.map_take, List.map_drop]
theorem sIx_none (n d : Nat) : HT.sIx n d none = d := rfl
theorem sIx_nat (n d k : Nat) (h : k ≤ n) : HT.sIx n d (some (k : Int)) = k := by rw [HT.sIx_nat]; omega
theorem sIx_big (n d k : Nat) (h : n ≤ k) : HT.sIx n d (some (k : Int)) = n := by rw [HT.sIx_nat]; omega
theorem cut_to (w : W) (k : Nat) : cutS (wS w) none (some (k : Int)) = wS (w.take k) := by
  rw [cutS_wS, sIx_none, List.drop_zero]
  by_cases h : k ≤ w.length
  · rw [sIx_nat _ _ _ h, Nat.sub_zero]
  · rw [sIx_big _ _ _ (by omega), Nat.sub_zero, List.take_of_length_le (Nat.le_refl _), List.take_of_length_le (by omega)]
theorem cut_from (w : W) (k : Nat) : cutS (wS w) (some (k : Int)) none = wS (w.drop k) := by
  rw [cutS_wS, sIx_none]
  by_cases h : k ≤ w.length
  · rw [sIx_nat _ _ _ h, List.take_of_length_le (by rw [List.length_drop]; omega)]
  · rw [sIx_big _ _ _ (by omega), List.drop_of_length_le (Nat.le_refl _), List.drop_of_length_le (by omega)]
    simp
theorem cut_mid (w : W) (k n : Nat) : cutS (wS w) (some (k : Int)) (some ((k + n : Nat) : Int)) = wS ((w.drop k).take n) := by
  rw [cutS_wS]
  by_cases h : k ≤ w.length
  · by_cases h2 : k + n ≤ w.length
    · rw [sIx_nat _ _ _ h, sIx_nat _ _ _ h2, Nat.add_sub_cancel_left]
    · rw [sIx_nat _ _ _ h, sIx_big _ _ _ (by omega), List.take_of_length_le (by rw [List.length_drop]; omega), List.take_of_length_le (by rw [List.length_drop]; omega)]
  · rw [sIx_big _ _ _ (by omega), sIx_big _ _ _ (by omega), List.drop_of_length_le (Nat.le_refl _), List.drop_of_length_le (by omega)]
    simp
/-- the last letter, as a text -/
theorem cut_last (w : W) : cutS (wS w) (some (-1 : Int)) none = wS (w.drop (w.length - 1)) := by
  rw [cutS_wS, sIx_none]
  have e : HT.sIx w.length 0 (some (-1)) = w.length - 1 := by
    show (if (-1 : Int) < 0 then ((-1 : Int) + (w.length : Int)).toNat else min ((-1 : Int)).toNat w.length) = _
    rw [if_pos (by decide)]
    omega
  rw [e, List.take_of_length_le (by rw [List.length_drop]; omega)]
theorem letter_of {x : Str} (h : inV (.str x) [.str "0", .str "1", .str "2"] = true) : ∃ i : Fin 3, x = wS [i] := by
  unfold inV at h
  simp only [List.any_cons, List.any_nil, Bool.or_false, Bool.or_eq_true, decide_eq_true_eq, V.str.injEq] at h
  rcases h with h | h | h
  · have h2 : ("0" : Str) = x := eq_of_beq h
    exact ⟨0, h2.symm.trans (by decide +kernel)⟩
  · have h2 : ("1" : Str) = x := eq_of_beq h
    exact ⟨1, h2.symm.trans (by decide +kernel)⟩
  · have h2 : ("2" : Str) = x := eq_of_beq h
    exact ⟨2, h2.symm.trans (by decide +kernel)⟩
theorem is_letter (i : Fin 3) : inV (.str (wS [i])) [.str "0", .str "1", .str "2"] = true := by
  revert i
  decide +kernel
theorem word_of {x : Str} (h : ∀ c ∈ x.cps.toList, inV (.str ⟨#[c]⟩) [.str "0", .str "1", .str "2"] = true) : ∃ w, x = wS w := by
  have go : ∀ l : List Nat, (∀ c ∈ l, inV (.str ⟨#[c]⟩) [.str "0", .str "1", .str "2"] = true) → ∃ w : W, l = w.map fun i => 48 + i.1 := by
    intro l
    induction l with
    | nil => exact fun _ => ⟨[], rfl⟩
    | cons c l ih =>
      intro h
      obtain ⟨w, rfl⟩ := ih fun c hc => h c (List.mem_cons_of_mem _ hc)
      obtain ⟨i, hi⟩ := letter_of (h c List.mem_cons_self)
      have e : [c] = [48 + i.1] := by
        have := congrArg (fun z : Str => z.cps.toList) hi
        simpa [wS_one] using this
      injection e with e _
      exact ⟨i :: w, by rw [e]; rfl⟩
  obtain ⟨w, hw⟩ := go _ h
  exact ⟨w, str_ext (by rw [hw, wS_list])⟩
/-- the order of texts of one length is that of the words -/
theorem lx_lt : ∀ {u v : W}, u.length = v.length → ¬ ((wS v).cps.toList < (wS u).cps.toList) → lx u v
  | [], _, _, _ => trivial
  | a :: x, [], h, _ => by cases h
  | a :: x, b :: y, h, hn => by
    have hl : x.length = y.length := by simpa using h
    rw [wS_list, wS_list] at hn
    show a < b ∨ a = b ∧ lx x y
    rw [List.map_cons, List.map_cons, List.cons_lt_cons_iff] at hn
    have n1 : ¬ (48 + b.1 < 48 + a.1) := fun z => hn (.inl z)
    by_cases c : a = b
    · refine .inr ⟨c, lx_lt hl fun z => hn (.inr ⟨by rw [c], ?_⟩)⟩
      rw [wS_list, wS_list] at z
      exact z
    · exact .inl (by
        show a.1 < b.1
        have : a.1 ≠ b.1 := fun z => c (Fin.ext z)
        omega)
end Cox

namespace K19
open PySem PySem.Spec PyProof.Rows L2
def topS (i : Nat) : Stmt := PySem.Challenge.pw_foldfloor_k19_distances_and_tiles_betwee.main.body.getD i (.Pass ⟨0, 0, 0, 0⟩)
abbrev s_is_order : Stmt := topS 9
abbrev s_is_orders : Stmt := topS 10
abbrev s_check_orders : Stmt := topS 11
abbrev s_is_letter : Stmt := topS 12
abbrev s_is_word : Stmt := topS 13
abbrev s_check_long_word : Stmt := topS 14
abbrev s_check_word : Stmt := topS 15
abbrev s_check_words : Stmt := topS 16
abbrev s_in_order : Stmt := topS 18
abbrev s_sine_ratio : Stmt := topS 22
abbrev s_bend_of : Stmt := topS 23
abbrev s_scale_for : Stmt := topS 24
abbrev s_first_depths : Stmt := topS 25
abbrev s_depths_behind : Stmt := topS 26
abbrev s_depths_of : Stmt := topS 27
abbrev s_far_letters : Stmt := topS 28
abbrev s_first_far : Stmt := topS 29
abbrev s_first_root : Stmt := topS 30
abbrev s_root_behind : Stmt := topS 31
abbrev s_place_crossing : Stmt := topS 32
abbrev s_Floor_init : Stmt := inClass (topS 33) 0
abbrev s_Floor_scale : Stmt := inClass (topS 33) 1
abbrev s_Floor_normal : Stmt := inClass (topS 33) 2
abbrev s_Floor_ends : Stmt := inClass (topS 33) 3
abbrev s_Floor_left_out : Stmt := inClass (topS 33) 4
abbrev s_Floor_below : Stmt := inClass (topS 33) 5
abbrev s_way_between : Stmt := topS 36
abbrev s_distance : Stmt := topS 37
abbrev s_numbers_below : Stmt := topS 38
abbrev s_count_ways : Stmt := topS 39
abbrev s_tiles_nearer : Stmt := topS 40
abbrev s_between : Stmt := topS 41
abbrev s_is_between : Stmt := topS 42
abbrev s_Tiles_init : Stmt := inClass (topS 45) 0
abbrev s_Tiles_normal : Stmt := inClass (topS 45) 1
abbrev s_Tiles_remembered : Stmt := inClass (topS 45) 4
abbrev s_law_number : Stmt := topS 47
abbrev s_law_draws : Stmt := topS 48
abbrev s_law_next : Stmt := topS 49
abbrev s_law_orders : Stmt := topS 50
abbrev s_law_word : Stmt := topS 51
abbrev s_law_sorted : Stmt := topS 52
abbrev s_law_kind : Stmt := topS 53
abbrev s_law_apart : Stmt := topS 54
abbrev s_law_all : Stmt := topS 55
abbrev s_law_numbers : Stmt := topS 56
abbrev s_law_told : Stmt := topS 57
abbrev s_law : Stmt := topS 58
theorem sc_is_order : FnScope ["order"] ["order"] (defScope s_is_order) := ⟨rfl, rfl, rfl, by decide +kernel, rfl, by decide +kernel, by decide +kernel⟩
theorem sc_is_orders : FnScope ["orders", "order"] ["orders"] (defScope s_is_orders) := ⟨rfl, rfl, rfl, by decide +kernel, rfl, by decide +kernel, by decide +kernel⟩
theorem sc_check_orders : FnScope ["orders"] ["orders"] (defScope s_check_orders) := ⟨rfl, rfl, rfl, by decide +kernel, rfl, by decide +kernel, by decide +kernel⟩
theorem sc_is_letter : FnScope ["text"] ["text"] (defScope s_is_letter) := ⟨rfl, rfl, rfl, by decide +kernel, rfl, by decide +kernel, by decide +kernel⟩
theorem sc_is_word : FnScope ["text", "most", "letter"] ["text", "most"] (defScope s_is_word) := ⟨rfl, rfl, rfl, by decide +kernel, rfl, by decide +kernel, by decide +kernel⟩
theorem sc_check_long_word : FnScope ["word", "most"] ["word", "most"] (defScope s_check_long_word) := ⟨rfl, rfl, rfl, by decide +kernel, rfl, by decide +kernel, by decide +kernel⟩
theorem sc_check_word : FnScope ["word"] ["word"] (defScope s_check_word) := ⟨rfl, rfl, rfl, by decide +kernel, rfl, by decide +kernel, by decide +kernel⟩
theorem sc_check_words : FnScope ["words", "word"] ["words"] (defScope s_check_words) := ⟨rfl, rfl, rfl, by decide +kernel, rfl, by decide +kernel, by decide +kernel⟩
theorem sc_in_order : FnScope ["words"] ["words"] (defScope s_in_order) := ⟨rfl, rfl, rfl, by decide +kernel, rfl, by decide +kernel, by decide +kernel⟩
theorem sc_sine_ratio : FnScope ["order", "double", "bits", "_", "before", "value", "slope_before", "slope"] ["order", "double", "bits"] (defScope s_sine_ratio) := ⟨rfl, rfl, rfl, by decide +kernel, rfl, by decide +kernel, by decide +kernel⟩
theorem sc_bend_of : FnScope ["order", "bits", "bend", "step", "value", "slope"] ["order", "bits"] (defScope s_bend_of) := ⟨rfl, rfl, rfl, by decide +kernel, rfl, by decide +kernel, by decide +kernel⟩
theorem sc_scale_for : FnScope ["orders", "steps", "bits", "order"] ["orders", "steps"] (defScope s_scale_for) := ⟨rfl, rfl, rfl, by decide +kernel, rfl, by decide +kernel, by decide +kernel⟩
theorem sc_first_depths : FnScope ["scale", "one"] ["scale"] (defScope s_first_depths) := ⟨rfl, rfl, rfl, by decide +kernel, rfl, by decide +kernel, by decide +kernel⟩
theorem sc_depths_behind : FnScope ["scale", "depths", "letter", "bits", "zero", "one", "two", "b01", "b12", "b02"] ["scale", "depths", "letter"] (defScope s_depths_behind) := ⟨rfl, rfl, rfl, by decide +kernel, rfl, by decide +kernel, by decide +kernel⟩
theorem sc_depths_of : FnScope ["scale", "word", "depths", "letter"] ["scale", "word"] (defScope s_depths_of) := ⟨rfl, rfl, rfl, by decide +kernel, rfl, by decide +kernel, by decide +kernel⟩
theorem sc_far_letters : FnScope ["depths", "letter", "depth"] ["depths"] (defScope s_far_letters) := ⟨rfl, rfl, rfl, by decide +kernel, rfl, by decide +kernel, by decide +kernel⟩
theorem sc_first_far : FnScope ["depths", "zero", "one", "two"] ["depths"] (defScope s_first_far) := ⟨rfl, rfl, rfl, by decide +kernel, rfl, by decide +kernel, by decide +kernel⟩
theorem sc_first_root : FnScope ["scale", "letter", "one", "other"] ["scale", "letter"] (defScope s_first_root) := ⟨rfl, rfl, rfl, by decide +kernel, rfl, by decide +kernel, by decide +kernel⟩
theorem sc_root_behind : FnScope ["scale", "root", "letter", "bits", "zero", "one", "two", "b01", "b12", "b02"] ["scale", "root", "letter"] (defScope s_root_behind) := ⟨rfl, rfl, rfl, by decide +kernel, rfl, by decide +kernel, by decide +kernel⟩
theorem sc_place_crossing : FnScope ["scale", "word", "letter", "root", "at"] ["scale", "word", "letter"] (defScope s_place_crossing) := ⟨rfl, rfl, rfl, by decide +kernel, rfl, by decide +kernel, by decide +kernel⟩
theorem sc_Floor_init : FnScope ["self", "orders"] ["self", "orders"] (defScope s_Floor_init) := ⟨rfl, rfl, rfl, by decide +kernel, rfl, by decide +kernel, by decide +kernel⟩
theorem sc_Floor_scale : FnScope ["self", "steps", "size"] ["self", "steps"] (defScope s_Floor_scale) := ⟨rfl, rfl, rfl, by decide +kernel, rfl, by decide +kernel, by decide +kernel⟩
theorem sc_Floor_normal : FnScope ["self", "word", "scale", "depths", "letters", "letter"] ["self", "word"] (defScope s_Floor_normal) := ⟨rfl, rfl, rfl, by decide +kernel, rfl, by decide +kernel, by decide +kernel⟩
theorem sc_Floor_ends : FnScope ["self", "word"] ["self", "word"] (defScope s_Floor_ends) := ⟨rfl, rfl, rfl, by decide +kernel, rfl, by decide +kernel, by decide +kernel⟩
theorem sc_Floor_left_out : FnScope ["self", "word", "letter"] ["self", "word", "letter"] (defScope s_Floor_left_out) := ⟨rfl, rfl, rfl, by decide +kernel, rfl, by decide +kernel, by decide +kernel⟩
theorem sc_Floor_below : FnScope ["self", "tile", "letter", "at"] ["self", "tile", "letter"] (defScope s_Floor_below) := ⟨rfl, rfl, rfl, by decide +kernel, rfl, by decide +kernel, by decide +kernel⟩
theorem sc_way_between : FnScope ["floor", "one", "other"] ["floor", "one", "other"] (defScope s_way_between) := ⟨rfl, rfl, rfl, by decide +kernel, rfl, by decide +kernel, by decide +kernel⟩
theorem sc_distance : FnScope ["orders", "one", "other"] ["orders", "one", "other"] (defScope s_distance) := ⟨rfl, rfl, rfl, by decide +kernel, rfl, by decide +kernel, by decide +kernel⟩
theorem sc_numbers_below : FnScope ["floor", "numbers", "below", "tile", "number", "letter", "less"] ["floor", "numbers"] (defScope s_numbers_below) := ⟨rfl, rfl, rfl, by decide +kernel, rfl, by decide +kernel, by decide +kernel⟩
theorem sc_count_ways : FnScope ["orders", "one", "other", "floor", "way", "numbers", "_"] ["orders", "one", "other"] (defScope s_count_ways) := ⟨rfl, rfl, rfl, by decide +kernel, rfl, by decide +kernel, by decide +kernel⟩
theorem sc_tiles_nearer : FnScope ["floor", "tiles", "nearer", "way", "tile", "letter", "less"] ["floor", "tiles"] (defScope s_tiles_nearer) := ⟨rfl, rfl, rfl, by decide +kernel, rfl, by decide +kernel, by decide +kernel⟩
theorem sc_between : FnScope ["orders", "one", "other", "floor", "tiles", "found"] ["orders", "one", "other"] (defScope s_between) := ⟨rfl, rfl, rfl, by decide +kernel, rfl, by decide +kernel, by decide +kernel⟩
theorem sc_is_between : FnScope ["orders", "tile", "one", "other", "floor", "first", "second"] ["orders", "tile", "one", "other"] (defScope s_is_between) := ⟨rfl, rfl, rfl, by decide +kernel, rfl, by decide +kernel, by decide +kernel⟩
theorem sc_Tiles_init : FnScope ["self", "orders"] ["self", "orders"] (defScope s_Tiles_init) := ⟨rfl, rfl, rfl, by decide +kernel, rfl, by decide +kernel, by decide +kernel⟩
theorem sc_Tiles_normal : FnScope ["self", "word"] ["self", "word"] (defScope s_Tiles_normal) := ⟨rfl, rfl, rfl, by decide +kernel, rfl, by decide +kernel, by decide +kernel⟩
theorem sc_Tiles_remembered : FnScope ["self", "word"] ["self", "word"] (defScope s_Tiles_remembered) := ⟨rfl, rfl, rfl, by decide +kernel, rfl, by decide +kernel, by decide +kernel⟩
theorem sc_law_number : FnScope ["cell"] ["cell"] (defScope s_law_number) := ⟨rfl, rfl, rfl, by decide +kernel, rfl, by decide +kernel, by decide +kernel⟩
theorem sc_law_draws : FnScope ["script", "draws", "cell", "rest", "k", "once", "twice"] ["script"] (defScope s_law_draws) := ⟨rfl, rfl, rfl, by decide +kernel, rfl, by decide +kernel, by decide +kernel⟩
theorem sc_law_next : FnScope ["draws"] ["draws"] (defScope s_law_next) := ⟨rfl, rfl, rfl, by decide +kernel, rfl, by decide +kernel, by decide +kernel⟩
theorem sc_law_orders : FnScope ["draws", "k"] ["draws"] (defScope s_law_orders) := ⟨rfl, rfl, rfl, by decide +kernel, rfl, by decide +kernel, by decide +kernel⟩
theorem sc_law_word : FnScope ["draws", "most", "word", "k"] ["draws", "most"] (defScope s_law_word) := ⟨rfl, rfl, rfl, by decide +kernel, rfl, by decide +kernel, by decide +kernel⟩
theorem sc_law_sorted : FnScope ["words", "size", "word"] ["words"] (defScope s_law_sorted) := ⟨rfl, rfl, rfl, by decide +kernel, rfl, by decide +kernel, by decide +kernel⟩
theorem sc_law_kind : FnScope ["error", "kinds"] ["error"] (defScope s_law_kind) := ⟨rfl, rfl, rfl, by decide +kernel, rfl, by decide +kernel, by decide +kernel⟩
theorem sc_law_apart : FnScope ["floor", "one", "other"] ["floor", "one", "other"] (defScope s_law_apart) := ⟨rfl, rfl, rfl, by decide +kernel, rfl, by decide +kernel, by decide +kernel⟩
theorem sc_law_all : FnScope ["floor", "one", "other", "total", "rows", "k", "row", "tile", "letter", "near"] ["floor", "one", "other"] (defScope s_law_all) := ⟨rfl, rfl, rfl, by decide +kernel, rfl, by decide +kernel, by decide +kernel⟩
theorem sc_law_numbers : FnScope ["floor", "rows", "numbers", "row", "later", "tile", "total", "letter"] ["floor", "rows"] (defScope s_law_numbers) := ⟨rfl, rfl, rfl, by decide +kernel, rfl, by decide +kernel, by decide +kernel⟩
theorem sc_law_told : FnScope ["orders", "one", "other", "error"] ["orders", "one", "other"] (defScope s_law_told) := ⟨rfl, rfl, rfl, by decide +kernel, rfl, by decide +kernel, by decide +kernel⟩
theorem sc_law : FnScope ["script", "draws", "orders", "floor", "one", "other", "rows", "due", "row", "told", "third", "answer"] ["script"] (defScope s_law) := ⟨rfl, rfl, rfl, by decide +kernel, rfl, by decide +kernel, by decide +kernel⟩
/-- where the top's classes and constants stand -/
structure Xs where
  FoldError : Addr
  NotOrders : Addr
  NotWord : Addr
  TooLarge : Addr
  NoAnswer : Addr
  Floor : Addr
  Tiles : Addr
  t_LETTERS : Tok
  t_MOST_LETTERS : Tok
  t_GUARD : Tok
  t_SIZE : Tok
  t_MOST_BETWEEN : Tok
  t_MOST_REMEMBERED : Tok
/-- what the top has written -/
structure Txt (K : PySem.W.Frag) (mg : Str → Option Value) (cx : Xs) : Prop where
  d_is_order : FK.At K mg "is_order" s_is_order ["order"]
  d_is_orders : FK.At K mg "is_orders" s_is_orders ["orders"]
  d_check_orders : FK.At K mg "check_orders" s_check_orders ["orders"]
  d_is_letter : FK.At K mg "is_letter" s_is_letter ["text"]
  d_is_word : FK.At K mg "is_word" s_is_word ["text", "most"]
  d_check_long_word : FK.At K mg "check_long_word" s_check_long_word ["word", "most"]
  d_check_word : FK.At K mg "check_word" s_check_word ["word"]
  d_check_words : FK.At K mg "check_words" s_check_words ["words"]
  d_in_order : FK.At K mg "in_order" s_in_order ["words"]
  d_sine_ratio : FK.At K mg "sine_ratio" s_sine_ratio ["order", "double", "bits"]
  d_bend_of : FK.At K mg "bend_of" s_bend_of ["order", "bits"]
  d_scale_for : FK.At K mg "scale_for" s_scale_for ["orders", "steps"]
  d_first_depths : FK.At K mg "first_depths" s_first_depths ["scale"]
  d_depths_behind : FK.At K mg "depths_behind" s_depths_behind ["scale", "depths", "letter"]
  d_depths_of : FK.At K mg "depths_of" s_depths_of ["scale", "word"]
  d_far_letters : FK.At K mg "far_letters" s_far_letters ["depths"]
  d_first_far : FK.At K mg "first_far" s_first_far ["depths"]
  d_first_root : FK.At K mg "first_root" s_first_root ["scale", "letter"]
  d_root_behind : FK.At K mg "root_behind" s_root_behind ["scale", "root", "letter"]
  d_place_crossing : FK.At K mg "place_crossing" s_place_crossing ["scale", "word", "letter"]
  d_Floor_init : FK.IAt K cx.Floor "Floor.__init__" s_Floor_init ["self", "orders"]
  d_Floor_scale : FK.MAt K cx.Floor "scale" "Floor.scale" s_Floor_scale ["self", "steps"]
  d_Floor_normal : FK.MAt K cx.Floor "normal" "Floor.normal" s_Floor_normal ["self", "word"]
  d_Floor_ends : FK.MAt K cx.Floor "ends" "Floor.ends" s_Floor_ends ["self", "word"]
  d_Floor_left_out : FK.MAt K cx.Floor "left_out" "Floor.left_out" s_Floor_left_out ["self", "word", "letter"]
  d_Floor_below : FK.MAt K cx.Floor "below" "Floor.below" s_Floor_below ["self", "tile", "letter"]
  d_way_between : FK.At K mg "way_between" s_way_between ["floor", "one", "other"]
  d_distance : FK.At K mg "distance" s_distance ["orders", "one", "other"]
  d_numbers_below : FK.At K mg "numbers_below" s_numbers_below ["floor", "numbers"]
  d_count_ways : FK.At K mg "count_ways" s_count_ways ["orders", "one", "other"]
  d_tiles_nearer : FK.At K mg "tiles_nearer" s_tiles_nearer ["floor", "tiles"]
  d_between : FK.At K mg "between" s_between ["orders", "one", "other"]
  d_is_between : FK.At K mg "is_between" s_is_between ["orders", "tile", "one", "other"]
  d_Tiles_init : FK.IAt K cx.Tiles "Tiles.__init__" s_Tiles_init ["self", "orders"]
  d_Tiles_normal : FK.MAt K cx.Tiles "normal" "Tiles.normal" s_Tiles_normal ["self", "word"]
  d_Tiles_remembered : FK.MAt K cx.Tiles "remembered" "Tiles.remembered" s_Tiles_remembered ["self", "word"]
  d_law_number : FK.At K mg "_law_number" s_law_number ["cell"]
  d_law_draws : FK.At K mg "_law_draws" s_law_draws ["script"]
  d_law_next : FK.At K mg "_law_next" s_law_next ["draws"]
  d_law_orders : FK.At K mg "_law_orders" s_law_orders ["draws"]
  d_law_word : FK.At K mg "_law_word" s_law_word ["draws", "most"]
  d_law_sorted : FK.At K mg "_law_sorted" s_law_sorted ["words"]
  d_law_kind : FK.At K mg "_law_kind" s_law_kind ["error"]
  d_law_apart : FK.At K mg "_law_apart" s_law_apart ["floor", "one", "other"]
  d_law_all : FK.At K mg "_law_all" s_law_all ["floor", "one", "other"]
  d_law_numbers : FK.At K mg "_law_numbers" s_law_numbers ["floor", "rows"]
  d_law_told : FK.At K mg "_law_told" s_law_told ["orders", "one", "other"]
  d_law : FK.At K mg "law" s_law ["script"]
  g_Floor : mg "Floor" = some (.ref cx.Floor)
  cl_Floor : Cls K cx.Floor
  nF_Floor_orders : NoAttr K cx.Floor "orders"
  nF_Floor_scales : NoAttr K cx.Floor "scales"
  g_Tiles : mg "Tiles" = some (.ref cx.Tiles)
  cl_Tiles : Cls K cx.Tiles
  nF_Tiles_floor : NoAttr K cx.Tiles "floor"
  nF_Tiles_normals : NoAttr K cx.Tiles "normals"
  n_all : mg "all" = none
  n_bool : mg "bool" = none
  n_int : mg "int" = none
  n_isinstance : mg "isinstance" = none
  n_len : mg "len" = none
  n_list : mg "list" = none
  n_range : mg "range" = none
  n_sorted : mg "sorted" = none
  n_sum : mg "sum" = none
  n_tuple : mg "tuple" = none
  n_zip : mg "zip" = none
  x_FoldError : FK.XC K mg "FoldError" cx.FoldError
  x_NotOrders : FK.XC K mg "NotOrders" cx.NotOrders
  x_NotWord : FK.XC K mg "NotWord" cx.NotWord
  x_TooLarge : FK.XC K mg "TooLarge" cx.TooLarge
  x_NoAnswer : FK.XC K mg "NoAnswer" cx.NoAnswer
  c_LETTERS : mg "LETTERS" = some (.str "012" cx.t_LETTERS)
  c_MOST_LETTERS : mg "MOST_LETTERS" = some (.int 60 cx.t_MOST_LETTERS)
  c_GUARD : mg "GUARD" = some (.int 32 cx.t_GUARD)
  c_SIZE : mg "SIZE" = some (.int 128 cx.t_SIZE)
  c_MOST_BETWEEN : mg "MOST_BETWEEN" = some (.int 2000 cx.t_MOST_BETWEEN)
  c_MOST_REMEMBERED : mg "MOST_REMEMBERED" = some (.int 400 cx.t_MOST_REMEMBERED)
  exm_NotOrders : PySem.W.exmOne K (.ref cx.NotOrders) (.ref cx.FoldError) = some true
  kit_NotOrders_NotOrders : PySem.W.kitOne K (.ref cx.NotOrders) (.ref cx.NotOrders) = some true
  kit_NotOrders_NotWord : PySem.W.kitOne K (.ref cx.NotOrders) (.ref cx.NotWord) = some false
  kit_NotOrders_NoAnswer : PySem.W.kitOne K (.ref cx.NotOrders) (.ref cx.NoAnswer) = some false
  kit_NotOrders_TooLarge : PySem.W.kitOne K (.ref cx.NotOrders) (.ref cx.TooLarge) = some false
  kit_NotOrders_FoldError : PySem.W.kitOne K (.ref cx.NotOrders) (.ref cx.FoldError) = some true
  exm_NotWord : PySem.W.exmOne K (.ref cx.NotWord) (.ref cx.FoldError) = some true
  kit_NotWord_NotOrders : PySem.W.kitOne K (.ref cx.NotWord) (.ref cx.NotOrders) = some false
  kit_NotWord_NotWord : PySem.W.kitOne K (.ref cx.NotWord) (.ref cx.NotWord) = some true
  kit_NotWord_NoAnswer : PySem.W.kitOne K (.ref cx.NotWord) (.ref cx.NoAnswer) = some false
  kit_NotWord_TooLarge : PySem.W.kitOne K (.ref cx.NotWord) (.ref cx.TooLarge) = some false
  kit_NotWord_FoldError : PySem.W.kitOne K (.ref cx.NotWord) (.ref cx.FoldError) = some true
  exm_NoAnswer : PySem.W.exmOne K (.ref cx.NoAnswer) (.ref cx.FoldError) = some true
  kit_NoAnswer_NotOrders : PySem.W.kitOne K (.ref cx.NoAnswer) (.ref cx.NotOrders) = some false
  kit_NoAnswer_NotWord : PySem.W.kitOne K (.ref cx.NoAnswer) (.ref cx.NotWord) = some false
  kit_NoAnswer_NoAnswer : PySem.W.kitOne K (.ref cx.NoAnswer) (.ref cx.NoAnswer) = some true
  kit_NoAnswer_TooLarge : PySem.W.kitOne K (.ref cx.NoAnswer) (.ref cx.TooLarge) = some false
  kit_NoAnswer_FoldError : PySem.W.kitOne K (.ref cx.NoAnswer) (.ref cx.FoldError) = some true
theorem mk_txt {K : PySem.W.Frag} {mg : Str → Option Value} {y0 : Addr} {y1 : Addr} {y2 : Addr} {y3 : Addr} {y4 : Addr} {y5 : Addr} {y6 : Addr} {y7 : Tok} {y8 : Tok} {y9 : Tok} {y10 : Tok} {y11 : Tok} {y12 : Tok} (T : Txt K mg ⟨y0, y1, y2, y3, y4, y5, y6, y7, y8, y9, y10, y11, y12⟩) : ∃ cx : Xs, Txt K mg cx := ⟨_, T⟩
section
variable {P : Program} {w : World} {K : PySem.W.Frag} {mg : Str → Option Value} {base : Heap} {cx : Xs}
/-- what the orders of a floor are -/
def okOrder (n : Int) : Bool := decide (n = 0) || (decide (2 ≤ n) && decide (n ≤ 12))
def okOrders (ns : List Int) : Bool := decide (ns.length = 3) && ns.all okOrder
theorem tyx_tup {H : Hp} {a : Addr} {xs : List V} (h : SqT K H a xs) : TyX K H (.ref a) (.type "tuple") := by
  rcases h with (h | ⟨o, h⟩) | ⟨o, its, n, hk, hc, _⟩
  · exact .base (.tup h)
  · exact .fTuple h
  · exact .kTuple hk hc
def spIsOrder : Sp := fun vs H Q _ => ∃ n : Int, vs = [.int n] ∧ Q (.bl (okOrder n)) H
theorem ok_is_order (T : Txt K mg cx) : FK.Has P w K mg base CX0 1 "is_order" ["order"] spIsOrder := by
  refine T.d_is_order.ok sc_is_order (fun vs H Q E h => ?_) (fun f cdv A outer s H vs Q E hr h => ?_)
  · obtain ⟨n, rfl, _⟩ := h
    rfl
  · obtain ⟨n, rfl, q⟩ := h
    refine ⟨_, (pss_cons (ps_if (PW.pt (pw_or (pt_val (pe_callB call_isi (by rfl) T.n_isinstance (by decide +kernel) (pa_cons (pv 0) (pa_cons (pe_bltn (v := .ty "bool") (by rfl) T.n_bool (by decide +kernel) rfl) pa_nil)))) (pw_or1 (pt_not (pt_val (pe_callB call_isi (by rfl) T.n_isinstance (by decide +kernel) (pa_cons (pv 0) (pa_cons (pe_bltn (v := .ty "int") (by rfl) T.n_int (by decide +kernel) rfl) pa_nil)))))))) (pss_one (ps_ret pe_bl)) pss_nil)
  (pss_one (ps_ret (pe_or (pe_cmpR op_eq (pv 0) pe_int (nomark _)) (pe_one (pe_chain op_le op_le pe_int (pv 0) pe_int)))))), ?_⟩
    simp only [tSeq, tIfS, tOr, tAnd, tB, tTest, tCB, tCons, tVar, tC, tNil, tNot, tNotV, tRet, tRetN, tNext, tBreak, tOrV, tAndV, tOp, tUn, rEq, rNe, tChain, rI0, rI, rU, tAsg, gName, tDrop, tAug, ipI, tIf, tCall, tCallS, tLst, tTup, tBM, tBM0, rAppend, rExtend, rPop, rReverse, tyV, rIxL, rIxT, rIxS, rIsB, rNotB, L2.start, List.map_cons, List.map_nil, List.length_cons, List.length_nil, List.replicate, List.cons_append, List.nil_append, List.append_nil, List.getElem?_cons_zero, List.getElem?_cons_succ, List.set_cons_zero, List.set_cons_succ, Nat.reduceAdd, Nat.reduceSub, Option.some.injEq, exists_eq_left', exists_eq_left, V.int.injEq, V.bl.injEq, V.str.injEq, V.ref.injEq, List.cons.injEq, and_true, true_and, and_assoc, reduceCtorEq, false_and, exists_false, or_false, false_or, exists_and_left, exists_const, scal, Int.reduceLT, Int.reduceLE, Int.reduceSub, Int.reduceAdd, Int.reduceNeg, if_true, if_false]
    refine ⟨_, _, _, _, false, rfl, .ty "bool", .base (.int n), kit_ty (by decide +kernel), _, rfl, iteF ?_⟩
    refine ⟨_, _, _, _, true, rfl, .ty "int", .base (.int n), kit_ty (by decide +kernel), _, rfl, iteF ?_⟩
    unfold okOrder at q
    refine ite2 (fun c => ?_) (fun c => ?_)
    · rw [c] at q
      exact q
    · rw [eq_false_of_ne_true c] at q
      refine ite2 (fun c2 => ?_) (fun c2 => ?_)
      · rw [c2] at q
        exact q
      · rw [eq_false_of_ne_true c2] at q
        exact q
def spIsOrders (K : PySem.W.Frag) : Sp := fun vs H Q _ => ∃ (a : Addr) (ns : List Int), vs = [.ref a] ∧ SqT K H a (ns.map V.int) ∧ ∀ H', Same H H' → Q (.bl (okOrders ns)) H'
theorem ok_is_orders (T : Txt K mg cx) : FK.Has P w K mg base CX0 2 "is_orders" ["orders"] (spIsOrders K) := by
  have H_is_order := ok_is_order (P := P) (w := w) (base := base) T
  refine T.d_is_orders.ok sc_is_orders (fun vs H Q E h => ?_) (fun f cdv A outer s H vs Q E hr h => ?_)
  · obtain ⟨a, ns, rfl, _⟩ := h
    rfl
  · obtain ⟨a, ns, rfl, hS, q⟩ := h
    refine ⟨_, (pss_cons (ps_if (PW.pt (pw_or (pt_not (pt_val (pe_callB call_isi (by rfl) T.n_isinstance (by decide +kernel) (pa_cons (pv 0) (pa_cons (pe_bltn (v := .ty "tuple") (by rfl) T.n_tuple (by decide +kernel) rfl) pa_nil))))) (pw_or1 (pt_cmpR op_ne (pe_callB call_len_seq (by rfl) T.n_len PySem.boot_len (pa_cons (pv 0) pa_nil)) pe_int (nomark _))))) (pss_one (ps_ret pe_bl)) pss_nil)
  (pss_one (ps_ret (pe_callB (cr_all rfl) (by rfl) T.n_all (by decide +kernel) (pa_cons (pe_lc (own := [("order", 1)]) (g := gName 1) (tt := tYes) rfl sc_is_orders.nd (pi_tup (pv 0)) (blkOk_by (own := [("order", 1)]) (N := ["orders", "order"]) (sc := defScope s_is_orders) (by decide +kernel)) (fun _ _ _ _ _ => (pg_name (i := 1) sc_is_orders.nd rfl (Or.inl rfl))) (fun _ _ _ _ _ => pts_nil) (fun _ _ _ _ _ => (FK.pe_h (E := E0) H_is_order (hr.mono (by decide)) pass0 (pa_cons (pv 1) pa_nil)))) pa_nil))))), ?_⟩
    simp only [tSeq, tIfS, tOr, tAnd, tB, tTest, tCB, tCons, tVar, tC, tNil, tNot, tNotV, tRet, tRetN, tNext, tBreak, tOrV, tAndV, tOp, tUn, rEq, rNe, tChain, rI0, rI, rU, tAsg, gName, tDrop, tAug, ipI, tIf, tCall, tCallS, tLst, tTup, tBM, tBM0, rAppend, rExtend, rPop, rReverse, tyV, rIxL, rIxT, rIxS, rIsB, rNotB, L2.start, List.map_cons, List.map_nil, List.length_cons, List.length_nil, List.replicate, List.cons_append, List.nil_append, List.append_nil, List.getElem?_cons_zero, List.getElem?_cons_succ, List.set_cons_zero, List.set_cons_succ, Nat.reduceAdd, Nat.reduceSub, Option.some.injEq, exists_eq_left', exists_eq_left, V.int.injEq, V.bl.injEq, V.str.injEq, V.ref.injEq, List.cons.injEq, and_true, true_and, and_assoc, reduceCtorEq, false_and, exists_false, or_false, false_or, exists_and_left, exists_const, scal, Int.reduceLT, Int.reduceLE, Int.reduceSub, Int.reduceAdd, Int.reduceNeg, if_true, if_false]
    refine ⟨_, _, _, _, true, rfl, .ty "tuple", tyx_tup hS, kit_ty (by decide +kernel), _, rfl, iteF ?_⟩
    refine ⟨_, .inr hS, ite2 (fun c => ?_) (fun c => ?_)⟩
    · have e : okOrders ns = false := by
        unfold okOrders
        rw [List.length_map] at c
        rw [decide_eq_false (fun z => by rw [z] at c; exact absurd c (by decide)), Bool.false_and]
      have q2 := q H (Same.refl H)
      rw [e] at q2
      exact q2
    · have e : ns.length = 3 := by
        rw [List.length_map] at c
        have c2 : ((ns.length : Nat) : Int) = 3 := by
          by_cases z : ((ns.length : Nat) : Int) = 3
          · exact z
          · exact absurd (by rw [decide_eq_false z]; rfl) c
        omega
      refine FK.rd_lc_pure (J := Itt K a) (H1 := H) ((ns.map okOrder).map V.bl) (fun R r => ⟨_, rfl, a, rfl, ⟨_, hS⟩, r⟩)
        (by have w := walk_tup (K := K) (a := a) (xs := ns.map V.int); rw [List.length_map] at w; rw [List.length_map, List.length_map]; exact w)
        (fun D o hD => FK.Same.tupS (FK.same_new hD) hS) (by rw [List.length_map, List.length_map, e]; decide) (fun _ => rfl) ?_ ?_ (fun _ _ _ _ (z : _ ∧ _) => z.1)
      · rintro D j x z H' H'' R hD hz rfl ⟨rfl, hx⟩ go
        rw [List.getElem?_map] at hx hz
        rw [List.getElem?_map] at hz
        cases en : ns[j]? with
        | none => rw [en] at hx; cases hx
        | some n =>
          rw [en] at hx hz
          cases hx
          cases hz
          simp only [tSeq, tIfS, tOr, tAnd, tB, tTest, tCB, tCons, tVar, tC, tNil, tNot, tNotV, tRet, tRetN, tNext, tBreak, tOrV, tAndV, tOp, tUn, rEq, rNe, tChain, rI0, rI, rU, tAsg, gName, tDrop, tAug, ipI, tIf, tCall, tCallS, tLst, tTup, tBM, tBM0, rAppend, rExtend, rPop, rReverse, tyV, rIxL, rIxT, rIxS, rIsB, rNotB, L2.start, List.map_cons, List.map_nil, List.length_cons, List.length_nil, List.replicate, List.cons_append, List.nil_append, List.append_nil, List.getElem?_cons_zero, List.getElem?_cons_succ, List.set_cons_zero, List.set_cons_succ, Nat.reduceAdd, Nat.reduceSub, Option.some.injEq, exists_eq_left', exists_eq_left, V.int.injEq, V.bl.injEq, V.str.injEq, V.ref.injEq, List.cons.injEq, and_true, true_and, and_assoc, reduceCtorEq, false_and, exists_false, or_false, false_or, exists_and_left, exists_const, scal, Int.reduceLT, Int.reduceLE, Int.reduceSub, Int.reduceAdd, Int.reduceNeg, if_true, if_false, wipe]
          exact ⟨n, rfl, go⟩
      · intro D hD
        refine ⟨D, ns.map okOrder, rfl, SqL.of upd_same, ?_⟩
        have e2 : okOrders ns = (ns.map okOrder).all id := by
          unfold okOrders
          rw [e, List.all_map]
          rfl
        rw [← e2]
        exact q _ (FK.same_new hD)
def spCheckOrders (K : PySem.W.Frag) (C : Addr) : Sp := fun vs H Q E => ∃ (a : Addr) (ns : List Int), vs = [.ref a] ∧ SqT K H a (ns.map V.int) ∧ (okOrders ns = false → ∀ H', Same H H' → E (.ref C) none H') ∧ (okOrders ns = true → ∀ H', Same H H' → Q .non H')
theorem ok_check_orders (T : Txt K mg cx) : FK.Has P w K mg base (L2.CX P w) 4 "check_orders" ["orders"] (spCheckOrders K cx.NotOrders) := by
  have H_is_orders := ok_is_orders (P := P) (w := w) (base := base) T
  refine T.d_check_orders.okX sc_check_orders (fun vs H Q E h => ?_) (fun f cdv A outer s H vs Q E hr h => ?_)
  · obtain ⟨a, ns, rfl, _⟩ := h
    rfl
  · obtain ⟨a, ns, rfl, hS, qE, q⟩ := h
    refine ⟨_, (pss_one (ps_if (pt_not (pt_val (FK.pe_h (E := E0) H_is_orders (hr.mono (by decide)) pass0 (pa_cons (pv 0) pa_nil)))) (pss_one (ps_raise rfl (takes_of rfl rfl rfl rfl) (pmk_own PySem.F.excBase_ValueError T.x_NotOrders.x T.x_NotOrders.g T.x_NotOrders.k (raises_own T.x_NotOrders.b T.x_NotOrders.t) (by exact rfl)))) pss_nil)), ?_⟩
    simp only [tSeq, tIfS, tOr, tAnd, tB, tTest, tCB, tCons, tVar, tC, tNil, tNot, tNotV, tRet, tRetN, tNext, tBreak, tOrV, tAndV, tOp, tUn, rEq, rNe, tChain, rI0, rI, rU, tAsg, gName, tDrop, tAug, ipI, tIf, tCall, tCallS, tLst, tTup, tBM, tBM0, rAppend, rExtend, rPop, rReverse, tyV, rIxL, rIxT, rIxS, rIsB, rNotB, L2.start, List.map_cons, List.map_nil, List.length_cons, List.length_nil, List.replicate, List.cons_append, List.nil_append, List.append_nil, List.getElem?_cons_zero, List.getElem?_cons_succ, List.set_cons_zero, List.set_cons_succ, Nat.reduceAdd, Nat.reduceSub, Option.some.injEq, exists_eq_left', exists_eq_left, V.int.injEq, V.bl.injEq, V.str.injEq, V.ref.injEq, List.cons.injEq, and_true, true_and, and_assoc, reduceCtorEq, false_and, exists_false, or_false, false_or, exists_and_left, exists_const, scal, Int.reduceLT, Int.reduceLE, Int.reduceSub, Int.reduceAdd, Int.reduceNeg, if_true, if_false]
    refine ⟨a, ns, rfl, hS, fun H' hs => ⟨_, rfl, ?_⟩⟩
    cases e : okOrders ns with
    | false => exact iteT (qE e H' hs)
    | true => exact iteF (q e H' hs)
/-- one letter -/
def isLet (x : Str) : Bool := inV (.str x) [.str "0", .str "1", .str "2"]
def spIsLetter : Sp := fun vs H Q _ => ∃ x : Str, vs = [.str x] ∧ ∀ H', Same H H' → Q (.bl (isLet x)) H'
theorem ok_is_letter (T : Txt K mg cx) : FK.Has P w K mg base CX0 1 "is_letter" ["text"] spIsLetter := by
  refine T.d_is_letter.ok sc_is_letter (fun vs H Q E h => ?_) (fun f cdv A outer s H vs Q E hr h => ?_)
  · obtain ⟨n, rfl, _⟩ := h
    rfl
  · obtain ⟨x, rfl, q⟩ := h
    refine ⟨_, (pss_one (ps_ret (pe_cmpR (show OpR _ (compareOp .In) (rIn K false) from op_in_seq) (pv 0) (pe_tup (pa_cons pe_str (pa_cons pe_str (pa_cons pe_str pa_nil)))) (by rfl)))), ?_⟩
    simp only [tSeq, tIfS, tOr, tAnd, tB, tTest, tCB, tCons, tVar, tC, tNil, tNot, tNotV, tRet, tRetN, tNext, tBreak, tOrV, tAndV, tOp, tUn, rEq, rNe, tChain, rI0, rI, rU, tAsg, gName, tDrop, tAug, ipI, tIf, tCall, tCallS, tLst, tTup, tBM, tBM0, rAppend, rExtend, rPop, rReverse, tyV, rIxL, rIxT, rIxS, rIsB, rNotB, L2.start, List.map_cons, List.map_nil, List.length_cons, List.length_nil, List.replicate, List.cons_append, List.nil_append, List.append_nil, List.getElem?_cons_zero, List.getElem?_cons_succ, List.set_cons_zero, List.set_cons_succ, Nat.reduceAdd, Nat.reduceSub, Option.some.injEq, exists_eq_left', exists_eq_left, V.int.injEq, V.bl.injEq, V.str.injEq, V.ref.injEq, List.cons.injEq, and_true, true_and, and_assoc, reduceCtorEq, false_and, exists_false, or_false, false_or, exists_and_left, exists_const, scal, Int.reduceLT, Int.reduceLE, Int.reduceSub, Int.reduceAdd, Int.reduceNeg, if_true, if_false]
    exact ⟨by decide, fun p hp => ⟨p, _, rfl, .inr (SqT.of upd_same), rfl, rfl, q _ (FK.same_new hp)⟩⟩
/-- a word of at most so many letters -/
def okWord (x : Str) (m : Int) : Bool := decide ((x.length : Int) ≤ m) && x.cps.toList.all fun c => isLet ⟨#[c]⟩
def spIsWord : Sp := fun vs H Q _ => ∃ (x : Str) (m : Int), vs = [.str x, .int m] ∧ x.length < sizeLine ∧ ∀ H', Same H H' → Q (.bl (okWord x m)) H'
theorem ok_is_word (T : Txt K mg cx) : FK.Has P w K mg base CX0 2 "is_word" ["text", "most"] spIsWord := by
  have H_is_letter := ok_is_letter (P := P) (w := w) (base := base) T
  refine T.d_is_word.ok sc_is_word (fun vs H Q E h => ?_) (fun f cdv A outer s H vs Q E hr h => ?_)
  · obtain ⟨n, m, rfl, _⟩ := h
    rfl
  · obtain ⟨x, m, rfl, hx, q⟩ := h
    refine ⟨_, (pss_one (ps_ret (pe_and (pe_cmpR op_le (pe_callB call_len_str (by rfl) T.n_len PySem.boot_len (pa_cons (pv 0) pa_nil)) (pv 1) (nomark _)) (pe_one (pe_callB (cr_all rfl) (by rfl) T.n_all (by decide +kernel) (pa_cons (pe_lc (own := [("letter", 2)]) (g := gName 2) (tt := tYes) rfl sc_is_word.nd (pi_str (pv 0)) (blkOk_by (own := [("letter", 2)]) (N := ["text", "most", "letter"]) (sc := defScope s_is_word) (by decide +kernel)) (fun _ _ _ _ _ => (pg_name (i := 2) sc_is_word.nd rfl (Or.inl rfl))) (fun _ _ _ _ _ => pts_nil) (fun _ _ _ _ _ => (FK.pe_h (E := E0) H_is_letter (hr.mono (by decide)) pass0 (pa_cons (pv 2) pa_nil)))) pa_nil)))))), ?_⟩
    simp only [tSeq, tIfS, tOr, tAnd, tB, tTest, tCB, tCons, tVar, tC, tNil, tNot, tNotV, tRet, tRetN, tNext, tBreak, tOrV, tAndV, tOp, tUn, rEq, rNe, tChain, rI0, rI, rU, tAsg, gName, tDrop, tAug, ipI, tIf, tCall, tCallS, tLst, tTup, tBM, tBM0, rAppend, rExtend, rPop, rReverse, tyV, rIxL, rIxT, rIxS, rIsB, rNotB, L2.start, List.map_cons, List.map_nil, List.length_cons, List.length_nil, List.replicate, List.cons_append, List.nil_append, List.append_nil, List.getElem?_cons_zero, List.getElem?_cons_succ, List.set_cons_zero, List.set_cons_succ, Nat.reduceAdd, Nat.reduceSub, Option.some.injEq, exists_eq_left', exists_eq_left, V.int.injEq, V.bl.injEq, V.str.injEq, V.ref.injEq, List.cons.injEq, and_true, true_and, and_assoc, reduceCtorEq, false_and, exists_false, or_false, false_or, exists_and_left, exists_const, scal, Int.reduceLT, Int.reduceLE, Int.reduceSub, Int.reduceAdd, Int.reduceNeg, if_true, if_false]
    refine ⟨Nat.le_of_lt hx, ?_⟩
    unfold okWord at q
    cases e : decide ((x.length : Int) ≤ m) with
    | false =>
      rw [e] at q
      exact iteF (q H (Same.refl H))
    | true =>
      rw [e] at q
      refine iteT ?_
      have hn : ((x.cps.toList.map fun c => isLet ⟨#[c]⟩).map V.bl).length = x.cps.size := by simp
      refine FK.rd_lc_same (J := Its x) (H1 := H) ((x.cps.toList.map fun c => isLet ⟨#[c]⟩).map V.bl) (fun R r => ⟨_, rfl, x, rfl, r⟩) (by rw [hn]; exact walk_str) (fun _ _ => trivial) (by rw [hn]; exact hx) (fun _ => rfl) ?_ ?_ (fun _ _ _ _ (z : _ ∧ _) => by rw [z.1]; exact Same.refl _)
      · rintro j v z H' H'' R hz s1 ⟨rfl, c, hc, rfl⟩ go
        rw [List.getElem?_map, List.getElem?_map, Array.getElem?_toList, hc] at hz
        cases hz
        simp only [tSeq, tIfS, tOr, tAnd, tB, tTest, tCB, tCons, tVar, tC, tNil, tNot, tNotV, tRet, tRetN, tNext, tBreak, tOrV, tAndV, tOp, tUn, rEq, rNe, tChain, rI0, rI, rU, tAsg, gName, tDrop, tAug, ipI, tIf, tCall, tCallS, tLst, tTup, tBM, tBM0, rAppend, rExtend, rPop, rReverse, tyV, rIxL, rIxT, rIxS, rIsB, rNotB, L2.start, List.map_cons, List.map_nil, List.length_cons, List.length_nil, List.replicate, List.cons_append, List.nil_append, List.append_nil, List.getElem?_cons_zero, List.getElem?_cons_succ, List.set_cons_zero, List.set_cons_succ, Nat.reduceAdd, Nat.reduceSub, Option.some.injEq, exists_eq_left', exists_eq_left, V.int.injEq, V.bl.injEq, V.str.injEq, V.ref.injEq, List.cons.injEq, and_true, true_and, and_assoc, reduceCtorEq, false_and, exists_false, or_false, false_or, exists_and_left, exists_const, scal, Int.reduceLT, Int.reduceLE, Int.reduceSub, Int.reduceAdd, Int.reduceNeg, if_true, if_false, wipe]
        exact ⟨_, rfl, fun H4 s4 => go H4 s4⟩
      · intro D H' hD s1 hD2
        refine ⟨D, _, rfl, SqL.of hD2, ?_⟩
        have q2 := q H' s1
        rw [show (true && x.cps.toList.all fun c => isLet ⟨#[c]⟩) = (x.cps.toList.map fun c => isLet ⟨#[c]⟩).all id by rw [List.all_map]; rfl] at q2
        exact q2

def spCheckLong (C : Addr) : Sp := fun vs H Q E => ∃ (x : Str) (m : Int), vs = [.str x, .int m] ∧ x.length < sizeLine ∧ (m = 60 ∨ m = 200 ∨ m = 400) ∧ (okWord x m = false → ∀ H', Same H H' → E (.ref C) none H') ∧ (okWord x m = true → ∀ H', Same H H' → Q .non H')
theorem ok_check_long_word (T : Txt K mg cx) : FK.Has P w K mg base (L2.CX P w) 4 "check_long_word" ["word", "most"] (spCheckLong cx.NotWord) := by
  have H_is_word := ok_is_word (P := P) (w := w) (base := base) T
  refine T.d_check_long_word.okX sc_check_long_word (fun vs H Q E h => ?_) (fun f cdv A outer s H vs Q E hr h => ?_)
  · obtain ⟨x, m, rfl, _⟩ := h
    rfl
  · obtain ⟨x, m, rfl, hx, hm, qE, q⟩ := h
    refine ⟨_, (pss_one (ps_if (pt_not (pt_val (FK.pe_h (E := E0) H_is_word (hr.mono (by decide)) pass0 (pa_cons (pv 0) (pa_cons (pv 1) pa_nil))))) (pss_one (ps_raise rfl (takes_of rfl rfl rfl rfl) (SkE.pmk_own1 PySem.F.excBase_ValueError T.x_NotWord.x T.x_NotWord.g T.x_NotWord.k (raises_own T.x_NotWord.b T.x_NotWord.t) rfl (pe_joined (PJ.cons pe_str (PJ.cons (pe_fmt (pv 1)) (PJ.cons pe_str PJ.nil))))))) pss_nil)), ?_⟩
    simp only [tSeq, tIfS, tOr, tAnd, tB, tTest, tCB, tCons, tVar, tC, tNil, tNot, tNotV, tRet, tRetN, tNext, tBreak, tOrV, tAndV, tOp, tUn, rEq, rNe, tChain, rI0, rI, rU, tAsg, gName, tDrop, tAug, ipI, tIf, tCall, tCallS, tLst, tTup, tBM, tBM0, rAppend, rExtend, rPop, rReverse, tyV, rIxL, rIxT, rIxS, rIsB, rNotB, L2.start, List.map_cons, List.map_nil, List.length_cons, List.length_nil, List.replicate, List.cons_append, List.nil_append, List.append_nil, List.getElem?_cons_zero, List.getElem?_cons_succ, List.set_cons_zero, List.set_cons_succ, Nat.reduceAdd, Nat.reduceSub, Option.some.injEq, exists_eq_left', exists_eq_left, V.int.injEq, V.bl.injEq, V.str.injEq, V.ref.injEq, List.cons.injEq, and_true, true_and, and_assoc, reduceCtorEq, false_and, exists_false, or_false, false_or, exists_and_left, exists_const, scal, Int.reduceLT, Int.reduceLE, Int.reduceSub, Int.reduceAdd, Int.reduceNeg, if_true, if_false, tJs, tFmt]
    refine ⟨x, m, rfl, hx, fun H' hs => ⟨_, rfl, ?_⟩⟩
    cases e : okWord x m with
    | false =>
      refine iteT ?_
      rcases hm with rfl | rfl | rfl <;> exact ⟨by decide +kernel, by decide +kernel, by decide +kernel, by decide +kernel, qE e H' hs⟩
    | true => exact iteF (q e H' hs)
def spCheckWord (C : Addr) : Sp := fun vs H Q E => ∃ x : Str, vs = [.str x] ∧ x.length < sizeLine ∧ (okWord x 60 = false → ∀ H', Same H H' → E (.ref C) none H') ∧ (okWord x 60 = true → ∀ H', Same H H' → Q .non H')
theorem ok_check_word (T : Txt K mg cx) : FK.Has P w K mg base (L2.CX P w) 5 "check_word" ["word"] (spCheckWord cx.NotWord) := by
  have H_check_long_word := ok_check_long_word (P := P) (w := w) (base := base) T
  refine T.d_check_word.okX sc_check_word (fun vs H Q E h => ?_) (fun f cdv A outer s H vs Q E hr h => ?_)
  · obtain ⟨x, rfl, _⟩ := h
    rfl
  · obtain ⟨x, rfl, hx, qE, q⟩ := h
    refine ⟨_, (pss_one (ps_expr (FK.pe_h (E := E) H_check_long_word (hr.mono (by decide)) (passes_call (takes_of rfl rfl rfl rfl) (fun _ _ _ _ h => h)) (pa_cons (pv 0) (pa_cons (pe_glob (v := .int 60) rfl T.c_MOST_LETTERS ⟨_, rfl⟩) pa_nil))))), ?_⟩
    simp only [tSeq, tIfS, tOr, tAnd, tB, tTest, tCB, tCons, tVar, tC, tNil, tNot, tNotV, tRet, tRetN, tNext, tBreak, tOrV, tAndV, tOp, tUn, rEq, rNe, tChain, rI0, rI, rU, tAsg, gName, tDrop, tAug, ipI, tIf, tCall, tCallS, tLst, tTup, tBM, tBM0, rAppend, rExtend, rPop, rReverse, tyV, rIxL, rIxT, rIxS, rIsB, rNotB, L2.start, List.map_cons, List.map_nil, List.length_cons, List.length_nil, List.replicate, List.cons_append, List.nil_append, List.append_nil, List.getElem?_cons_zero, List.getElem?_cons_succ, List.set_cons_zero, List.set_cons_succ, Nat.reduceAdd, Nat.reduceSub, Option.some.injEq, exists_eq_left', exists_eq_left, V.int.injEq, V.bl.injEq, V.str.injEq, V.ref.injEq, List.cons.injEq, and_true, true_and, and_assoc, reduceCtorEq, false_and, exists_false, or_false, false_or, exists_and_left, exists_const, scal, Int.reduceLT, Int.reduceLE, Int.reduceSub, Int.reduceAdd, Int.reduceNeg, if_true, if_false]
    exact ⟨x, 60, rfl, hx, .inl rfl, qE, q⟩
theorem len3 {ns : List Int} (h : okOrders ns = true) : ∃ m0 m1 m2, ns = [m0, m1, m2] := by
  unfold okOrders at h
  rw [Bool.and_eq_true] at h
  have e := of_decide_eq_true h.1
  match ns, e with
  | [m0, m1, m2], _ => exact ⟨_, _, _, rfl⟩
theorem okOrder_bound {n : Int} (h : okOrder n = true) : 0 ≤ n ∧ n ≤ 12 := by
  unfold okOrder at h
  simp only [Bool.or_eq_true, Bool.and_eq_true, decide_eq_true_eq] at h
  omega

/-- the drawn numbers that are left -/
def Dr (H : Hp) (d : Addr) : Prop := ∃ ds : List Int, H d = some (.lst (ds.map V.int)) ∧ ds.length ≤ 8000 ∧ ∀ z ∈ ds, 0 ≤ z ∧ z < 1000
def spNumber : Sp := fun vs H Q _ => ∃ n : Int, vs = [.int n] ∧ Q (.int (if n < 0 then -n else n)) H
theorem ok_law_number (T : Txt K mg cx) : FK.Has P w K mg base CX0 1 "_law_number" ["cell"] spNumber := by
  refine T.d_law_number.ok sc_law_number (fun vs H Q E h => ?_) (fun f cdv A outer s H vs Q E hr h => ?_)
  · obtain ⟨n, rfl, _⟩ := h
    rfl
  · obtain ⟨n, rfl, q⟩ := h
    refine ⟨_, (pss_cons (ps_if (pt_cmpR op_lt (pv 0) pe_int (nomark _)) (pss_one (ps_ret (pe_op op_sub pe_int (pv 0)))) pss_nil)
  (pss_one (ps_ret (pv 0)))), ?_⟩
    simp only [tSeq, tIfS, tOr, tAnd, tB, tTest, tCB, tCons, tVar, tC, tNil, tNot, tNotV, tRet, tRetN, tNext, tBreak, tOrV, tAndV, tOp, tUn, rEq, rNe, tChain, rI0, rI, rU, tAsg, gName, tDrop, tAug, ipI, tIf, tCall, tCallS, tLst, tTup, tBM, tBM0, rAppend, rExtend, rPop, rReverse, tyV, rIxL, rIxT, rIxS, rIsB, rNotB, L2.start, List.map_cons, List.map_nil, List.length_cons, List.length_nil, List.replicate, List.cons_append, List.nil_append, List.append_nil, List.getElem?_cons_zero, List.getElem?_cons_succ, List.set_cons_zero, List.set_cons_succ, Nat.reduceAdd, Nat.reduceSub, Option.some.injEq, exists_eq_left', exists_eq_left, V.int.injEq, V.bl.injEq, V.str.injEq, V.ref.injEq, List.cons.injEq, and_true, true_and, and_assoc, reduceCtorEq, false_and, exists_false, or_false, false_or, exists_and_left, exists_const, scal, Int.reduceLT, Int.reduceLE, Int.reduceSub, Int.reduceAdd, Int.reduceNeg, if_true, if_false]
    refine ite2 (fun c => ?_) (fun c => ?_)
    · rw [if_pos (of_decide_eq_true c)] at q
      rw [show (0 : Int) - n = -n by omega]
      exact q
    · rw [if_neg (fun z => c (decide_eq_true z))] at q
      exact q
def spDraw : Sp := fun vs H Q _ => ∃ d : Addr, vs = [.ref d] ∧ Dr H d ∧ ∀ r H', 0 ≤ r → r < 1000 → Dr H' d → FK.But d H H' → Q (.int r) H'
theorem ok_law_next (T : Txt K mg cx) : FK.Has P w K mg base CX0 1 "_law_next" ["draws"] spDraw := by
  refine T.d_law_next.ok sc_law_next (fun vs H Q E h => ?_) (fun f cdv A outer s H vs Q E hr h => ?_)
  · obtain ⟨n, rfl, _⟩ := h
    rfl
  · obtain ⟨d, rfl, ⟨ds, hd, hl, hz⟩, q⟩ := h
    refine ⟨_, (pss_cons (ps_if (pt_truth (pv 0) (by intro _; rfl)) (pss_one (ps_ret (pe_bm0 PySem.F.plainAttrs_list PySem.F.slot_list_pop PySem.F.type_list_pop mt_pop (pv 0)))) pss_nil)
  (pss_one (ps_ret pe_int))), ?_⟩
    simp only [tSeq, tIfS, tOr, tAnd, tB, tTest, tCB, tCons, tVar, tC, tNil, tNot, tNotV, tRet, tRetN, tNext, tBreak, tOrV, tAndV, tOp, tUn, rEq, rNe, tChain, rI0, rI, rU, tAsg, gName, tDrop, tAug, ipI, tIf, tCall, tCallS, tLst, tTup, tBM, tBM0, rAppend, rExtend, rPop, rReverse, tyV, rIxL, rIxT, rIxS, rIsB, rNotB, L2.start, List.map_cons, List.map_nil, List.length_cons, List.length_nil, List.replicate, List.cons_append, List.nil_append, List.append_nil, List.getElem?_cons_zero, List.getElem?_cons_succ, List.set_cons_zero, List.set_cons_succ, Nat.reduceAdd, Nat.reduceSub, Option.some.injEq, exists_eq_left', exists_eq_left, V.int.injEq, V.bl.injEq, V.str.injEq, V.ref.injEq, List.cons.injEq, and_true, true_and, and_assoc, reduceCtorEq, false_and, exists_false, or_false, false_or, exists_and_left, exists_const, scal, Int.reduceLT, Int.reduceLE, Int.reduceSub, Int.reduceAdd, Int.reduceNeg, if_true, if_false]
    refine ⟨!(ds.map V.int).isEmpty, .inl ⟨_, SqL.of hd, rfl⟩, ite2 (fun c => ?_) (fun c => ?_)⟩
    · have hne : ds ≠ [] := fun z => by
        subst z
        exact absurd c (by decide)
      refine ⟨.inl ⟨_, SqL.of hd⟩, ds.map V.int, hd, V.int (ds.getLast hne), ?_, ?_⟩
      · rw [List.length_map, List.getElem?_map, ← List.getLast?_eq_getElem?, List.getLast?_eq_some_getLast hne]
        rfl
      · obtain ⟨h1, h2⟩ := hz _ (List.getLast_mem hne)
        refine q _ _ h1 h2 ⟨ds.dropLast, by rw [upd_same, List.map_dropLast], by rw [List.length_dropLast]; omega, fun z z2 => hz z (List.dropLast_subset _ z2)⟩ .upd
    · exact q 0 H (by omega) (by omega) ⟨ds, hd, hl, hz⟩ .refl

def spDraws (K : PySem.W.Frag) : Sp := fun vs H Q _ => ∃ (a : Addr) (ns : List Int), vs = [.ref a] ∧ SqL K H a (ns.map V.int) ∧ ns.length ≤ 63 ∧ ∀ d H', H d = none → Dr H' d → Same H H' → Q (.ref d) H'
theorem ok_law_draws (T : Txt K mg cx) : FK.Has P w K mg base CX0 2 "_law_draws" ["script"] (spDraws K) := by
  have H_law_number := ok_law_number (P := P) (w := w) (base := base) T
  refine T.d_law_draws.ok sc_law_draws (fun vs H Q E h => ?_) (fun f cdv A outer s H vs Q E hr h => ?_)
  · obtain ⟨a, ns, rfl, _⟩ := h
    rfl
  · obtain ⟨a, ns, rfl, hS, hl, q⟩ := h
    refine ⟨_, (pss_cons (ps_set (i := 1) sc_law_draws.nd rfl (Or.inl rfl) (by exact (pe_lst pa_nil)))
  (pss_cons (ps_for PassesOwn.never rfl (pi_list (pv 0)) (pg_name (i := 2) sc_law_draws.nd rfl (Or.inl rfl))
  (pss_cons (ps_set (i := 3) sc_law_draws.nd rfl (Or.inl rfl) (by exact (FK.pe_h (E := E0) H_law_number (hr.mono (by decide)) pass0 (pa_cons (pv 2) pa_nil))))
  (pss_one (ps_if (pt_cmpR op_ge (pv 3) pe_int (nomark _)) (pss_one (ps_for PassesOwn.never rfl (pi_range1 rfl T.n_range (pa_cons pe_int pa_nil)) (pg_name (i := 4) sc_law_draws.nd rfl (Or.inl rfl))
  (pss_cons (ps_if (pt_cmpR op_eq (pv 3) pe_int (nomark _)) (pss_one ps_break) pss_nil)
  (pss_cons (ps_expr (pe_bm PySem.F.plainAttrs_list PySem.F.slot_list_append PySem.F.type_list_append mt_append (pv 1) (pa_cons (pe_op op_mod (pe_callTy FK.call_intI (by rfl) T.n_int (by decide +kernel) (pa_cons (pv 3) pa_nil)) pe_int) pa_nil)))
  (pss_one (ps_set (i := 3) sc_law_draws.nd rfl (Or.inl rfl) (by exact (pe_op op_fdiv (pv 3) pe_int)))))))) (pss_cons (ps_set (i := 5) sc_law_draws.nd rfl (Or.inl rfl) (by exact (pe_op op_mod (pe_callTy FK.call_intI (by rfl) T.n_int (by decide +kernel) (pa_cons (pe_op op_add (pe_op op_mul (pv 3) pe_int) pe_int) pa_nil)) pe_int)))
  (pss_cons (ps_set (i := 6) sc_law_draws.nd rfl (Or.inl rfl) (by exact (pe_op op_mod (pe_callTy FK.call_intI (by rfl) T.n_int (by decide +kernel) (pa_cons (pe_op op_add (pe_op op_mul (pv 5) pe_int) (pv 3)) pa_nil)) pe_int)))
  (pss_one (ps_expr (pe_bm PySem.F.plainAttrs_list PySem.F.slot_list_extend PySem.F.type_list_extend mt_extend (pv 1) (pa_cons (pe_lst (pa_cons (pe_op op_mod (pe_callTy FK.call_intI (by rfl) T.n_int (by decide +kernel) (pa_cons (pv 3) pa_nil)) pe_int) (pa_cons (pe_op op_mod (pe_callTy FK.call_intI (by rfl) T.n_int (by decide +kernel) (pa_cons (pv 5) pa_nil)) pe_int) (pa_cons (pe_op op_mod (pe_callTy FK.call_intI (by rfl) T.n_int (by decide +kernel) (pa_cons (pv 6) pa_nil)) pe_int) pa_nil)))) pa_nil))))))))))
  (pss_one (ps_ret (pv 1))))), ?_⟩
    simp only [tSeq, tIfS, tOr, tAnd, tB, tTest, tCB, tCons, tVar, tC, tNil, tNot, tNotV, tRet, tRetN, tNext, tBreak, tOrV, tAndV, tOp, tUn, rEq, rNe, tChain, rI0, rI, rU, tAsg, gName, tDrop, tAug, ipI, tIf, tCall, tCallS, tLst, tTup, tBM, tBM0, rAppend, rExtend, rPop, rReverse, tyV, rIxL, rIxT, rIxS, rIsB, rNotB, L2.start, List.map_cons, List.map_nil, List.length_cons, List.length_nil, List.replicate, List.cons_append, List.nil_append, List.append_nil, List.getElem?_cons_zero, List.getElem?_cons_succ, List.set_cons_zero, List.set_cons_succ, Nat.reduceAdd, Nat.reduceSub, Option.some.injEq, exists_eq_left', exists_eq_left, V.int.injEq, V.bl.injEq, V.str.injEq, V.ref.injEq, List.cons.injEq, and_true, true_and, and_assoc, reduceCtorEq, false_and, exists_false, or_false, false_or, exists_and_left, exists_const, scal, Int.reduceLT, Int.reduceLE, Int.reduceSub, Int.reduceAdd, Int.reduceNeg, if_true, if_false]
    refine ⟨Nat.zero_le _, fun p hp => ?_⟩
    refine FK.rd_for (J := Itl K a) (H1 := upd H p (.lst [])) (fun R r => ⟨_, rfl, a, rfl, ⟨_, (FK.same_new hp).seq hS⟩, r⟩) (walk_list (xs := ns.map V.int))
      (fun i σ H' => ∃ (ds : List Int) (v3 v4 v5 v6 v7 : Option V), σ = [some (.ref a), some (.ref p), v3, v4, v5, v6, v7] ∧ H' p = some (.lst (ds.map V.int)) ∧ ds.length ≤ 60 * i ∧ (∀ z ∈ ds, 0 ≤ z ∧ z < 1000) ∧ Same H H')
      ⟨[], none, none, none, none, none, rfl, upd_same, by simp, by simp, FK.same_new hp⟩ (fun i σ H' _ ⟨_, _, _, _, _, _, _, _, _, _, e⟩ => e.seq hS) ?_ ?_
    · rintro i x σ H1 H2 hi ⟨ds, v3, v4, v5, v6, v7, rfl, hd, hn, hz, hs⟩ ⟨rfl, hx⟩
      obtain ⟨n, rfl⟩ : ∃ n, x = V.int n := by
        rw [List.getElem?_map] at hx
        cases e : ns[i]? with
        | none => rw [e] at hx; cases hx
        | some z => rw [e] at hx; exact ⟨z, (Option.some.inj hx).symm⟩
      simp only [tSeq, tIfS, tOr, tAnd, tB, tTest, tCB, tCons, tVar, tC, tNil, tNot, tNotV, tRet, tRetN, tNext, tBreak, tOrV, tAndV, tOp, tUn, rEq, rNe, tChain, rI0, rI, rU, tAsg, gName, tDrop, tAug, ipI, tIf, tCall, tCallS, tLst, tTup, tBM, tBM0, rAppend, rExtend, rPop, rReverse, tyV, rIxL, rIxT, rIxS, rIsB, rNotB, L2.start, List.map_cons, List.map_nil, List.length_cons, List.length_nil, List.replicate, List.cons_append, List.nil_append, List.append_nil, List.getElem?_cons_zero, List.getElem?_cons_succ, List.set_cons_zero, List.set_cons_succ, Nat.reduceAdd, Nat.reduceSub, Option.some.injEq, exists_eq_left', exists_eq_left, V.int.injEq, V.bl.injEq, V.str.injEq, V.ref.injEq, List.cons.injEq, and_true, true_and, and_assoc, reduceCtorEq, false_and, exists_false, or_false, false_or, exists_and_left, exists_const, scal, Int.reduceLT, Int.reduceLE, Int.reduceSub, Int.reduceAdd, Int.reduceNeg, if_true, if_false]
      refine ⟨n, rfl, ?_⟩
      simp only [tSeq, tIfS, tOr, tAnd, tB, tTest, tCB, tCons, tVar, tC, tNil, tNot, tNotV, tRet, tRetN, tNext, tBreak, tOrV, tAndV, tOp, tUn, rEq, rNe, tChain, rI0, rI, rU, tAsg, gName, tDrop, tAug, ipI, tIf, tCall, tCallS, tLst, tTup, tBM, tBM0, rAppend, rExtend, rPop, rReverse, tyV, rIxL, rIxT, rIxS, rIsB, rNotB, L2.start, List.map_cons, List.map_nil, List.length_cons, List.length_nil, List.replicate, List.cons_append, List.nil_append, List.append_nil, List.getElem?_cons_zero, List.getElem?_cons_succ, List.set_cons_zero, List.set_cons_succ, Nat.reduceAdd, Nat.reduceSub, Option.some.injEq, exists_eq_left', exists_eq_left, V.int.injEq, V.bl.injEq, V.str.injEq, V.ref.injEq, List.cons.injEq, and_true, true_and, and_assoc, reduceCtorEq, false_and, exists_false, or_false, false_or, exists_and_left, exists_const, scal, Int.reduceLT, Int.reduceLE, Int.reduceSub, Int.reduceAdd, Int.reduceNeg, if_true, if_false]
      have hr0 : (0 : Int) ≤ (if n < 0 then -n else n) := by split <;> omega
      generalize (if n < 0 then -n else n) = rest at hr0 ⊢
      refine ite2 (fun c => ?_) (fun c => ?_)
      · refine FK.rd_for (J := Itr 0 60) (H1 := H2) (fun R r => ⟨60, rfl, by decide, by decide, r⟩) walk_range
          (fun j σ H' => ∃ (ds2 : List Int) (rest : Int) (v4 v6 v7 : Option V), σ = [some (.ref a), some (.ref p), some (.int n), some (.int rest), v4, v6, v7] ∧ H' p = some (.lst (ds2.map V.int)) ∧ ds2.length ≤ 60 * i + j ∧ (∀ z ∈ ds2, 0 ≤ z ∧ z < 1000) ∧ 0 ≤ rest ∧ Same H H')
          ⟨ds, rest, v5, v6, v7, rfl, hd, by omega, hz, hr0, hs⟩ (fun _ _ _ _ _ => trivial) ?_ ?_
        · rintro j x σ H3 H4 hj ⟨ds2, rest, v4, v6, v7, rfl, hd2, hn2, hz2, hr2, hs2⟩ ⟨rfl, rfl⟩
          simp only [tSeq, tIfS, tOr, tAnd, tB, tTest, tCB, tCons, tVar, tC, tNil, tNot, tNotV, tRet, tRetN, tNext, tBreak, tOrV, tAndV, tOp, tUn, rEq, rNe, tChain, rI0, rI, rU, tAsg, gName, tDrop, tAug, ipI, tIf, tCall, tCallS, tLst, tTup, tBM, tBM0, rAppend, rExtend, rPop, rReverse, tyV, rIxL, rIxT, rIxS, rIsB, rNotB, L2.start, List.map_cons, List.map_nil, List.length_cons, List.length_nil, List.replicate, List.cons_append, List.nil_append, List.append_nil, List.getElem?_cons_zero, List.getElem?_cons_succ, List.set_cons_zero, List.set_cons_succ, Nat.reduceAdd, Nat.reduceSub, Option.some.injEq, exists_eq_left', exists_eq_left, V.int.injEq, V.bl.injEq, V.str.injEq, V.ref.injEq, List.cons.injEq, and_true, true_and, and_assoc, reduceCtorEq, false_and, exists_false, or_false, false_or, exists_and_left, exists_const, scal, Int.reduceLT, Int.reduceLE, Int.reduceSub, Int.reduceAdd, Int.reduceNeg, if_true, if_false]
          refine ite2 (fun c => ?_) (fun c => ?_)
          · exact ⟨ds2, hd2, by omega, hz2, hs2⟩
          · refine ⟨.inl ⟨_, SqL.of hd2⟩, _, hd2, ?_, ?_⟩
            · rw [List.length_map]
              exact Nat.lt_of_le_of_lt (Nat.le_trans hn2 (show 60 * i + j ≤ 8000 by rw [List.length_map] at hi; omega)) (by decide)
            · refine ⟨⟨by decide, by decide⟩, ds2 ++ [rest % 1000], ?_, ?_, ?_, ?_, ?_⟩
              · rw [upd_same, List.map_append]
                rfl
              · rw [List.length_append, List.length_singleton]
                omega
              · intro z hz3
                rcases List.mem_append.mp hz3 with hz3 | hz3
                · exact hz2 z hz3
                · rw [List.mem_singleton.mp hz3]
                  exact ⟨Int.emod_nonneg _ (by decide), Int.emod_lt_of_pos _ (by decide)⟩
              · exact Int.ediv_nonneg hr2 (by decide)
              · intro b o e
                rw [upd_ne (fun z => by rw [z, hp] at e; cases e)]
                exact hs2 b o e
        · rintro σ H3 ⟨ds2, rest, v4, v6, v7, rfl, hd2, hn2, hz2, hr2, hs2⟩
          exact ⟨ds2, _, _, _, _, _, rfl, hd2, by omega, hz2, hs2⟩
      · refine ⟨.inr (by decide), .inr (by decide), .inl ⟨_, SqL.of hd⟩, by decide, fun r2 hr2 => ?_⟩
        have hpr : p ≠ r2 := fun z => by rw [z, hr2] at hd; cases hd
        have e1 : (0 : Int) ≤ rest % 1000 ∧ rest % 1000 < 1000 := ⟨Int.emod_nonneg _ (by decide), Int.emod_lt_of_pos _ (by decide)⟩
        have e2 : (0 : Int) ≤ (rest * 48271 + 11) % 2147483647 % 1000 ∧ (rest * 48271 + 11) % 2147483647 % 1000 < 1000 := ⟨Int.emod_nonneg _ (by decide), Int.emod_lt_of_pos _ (by decide)⟩
        have e3 : (0 : Int) ≤ ((rest * 48271 + 11) % 2147483647 * 69621 + rest) % 2147483629 % 1000 ∧ ((rest * 48271 + 11) % 2147483647 * 69621 + rest) % 2147483629 % 1000 < 1000 := ⟨Int.emod_nonneg _ (by decide), Int.emod_lt_of_pos _ (by decide)⟩
        refine ⟨ds.map V.int, by rw [upd_ne hpr]; exact hd, _, upd_same, ?_, ds ++ [_, _, _], by rw [upd_same, List.map_append]; rfl, ?_, ?_, ?_⟩
        · rw [List.length_map]
          rw [List.length_map] at hi
          exact Nat.le_trans (show ds.length + 3 ≤ 8000 by omega) (by decide)
        · rw [List.length_append]
          show ds.length + 3 ≤ _
          omega
        · intro z hz3
          rcases List.mem_append.mp hz3 with hz3 | hz3
          · exact hz z hz3
          · simp only [List.mem_cons, List.not_mem_nil, or_false] at hz3
            rcases hz3 with rfl | rfl | rfl
            · exact e1
            · exact e2
            · exact e3
        · intro b o e
          rw [upd_ne (fun z => by rw [z, hp] at e; cases e)]
          exact FK.same_new hr2 b o (hs b o e)
    · rintro σ H1 ⟨ds, v3, v4, v5, v6, v7, rfl, hd, hn, hz, hs⟩
      rw [List.length_map] at hn
      simp only [tSeq, tIfS, tOr, tAnd, tB, tTest, tCB, tCons, tVar, tC, tNil, tNot, tNotV, tRet, tRetN, tNext, tBreak, tOrV, tAndV, tOp, tUn, rEq, rNe, tChain, rI0, rI, rU, tAsg, gName, tDrop, tAug, ipI, tIf, tCall, tCallS, tLst, tTup, tBM, tBM0, rAppend, rExtend, rPop, rReverse, tyV, rIxL, rIxT, rIxS, rIsB, rNotB, L2.start, List.map_cons, List.map_nil, List.length_cons, List.length_nil, List.replicate, List.cons_append, List.nil_append, List.append_nil, List.getElem?_cons_zero, List.getElem?_cons_succ, List.set_cons_zero, List.set_cons_succ, Nat.reduceAdd, Nat.reduceSub, Option.some.injEq, exists_eq_left', exists_eq_left, V.int.injEq, V.bl.injEq, V.str.injEq, V.ref.injEq, List.cons.injEq, and_true, true_and, and_assoc, reduceCtorEq, false_and, exists_false, or_false, false_or, exists_and_left, exists_const, scal, Int.reduceLT, Int.reduceLE, Int.reduceSub, Int.reduceAdd, Int.reduceNeg, if_true, if_false]
      exact q p _ hp ⟨ds, hd, by omega, hz⟩ hs

theorem Dr.same {H H' : Hp} {d : Addr} (h : Dr H d) (s : Same H H') : Dr H' d := by
  obtain ⟨ds, h1, h2⟩ := h
  exact ⟨ds, s _ _ h1, h2⟩
theorem Dr.ne {H : Hp} {d p : Addr} (h : Dr H d) (n : H p = none) : p ≠ d := fun z => by
  obtain ⟨ds, h1, _⟩ := h
  rw [← z, n] at h1
  cases h1
theorem atI_mem {cs : List V} {r : Int} (h0 : 0 ≤ r) (h1 : r < cs.length) : ∃ v, atI cs r = some v ∧ v ∈ cs := by
  obtain ⟨k, rfl⟩ := Int.eq_ofNat_of_zero_le h0
  have hk : k < cs.length := by omega
  exact ⟨cs[k], atI_nat (List.getElem?_eq_getElem hk), List.getElem_mem hk⟩
theorem Dr.at {H : Hp} {d p : Addr} {o : HO} (h : Dr H d) (n : p ≠ d) : Dr (upd H p o) d := by
  obtain ⟨ds, h1, h2⟩ := h
  exact ⟨ds, by rw [upd_ne (fun z => n z.symm)]; exact h1, h2⟩
theorem but_at {H H' : Hp} {d p : Addr} {o : HO} (n : H p = none) (h : FK.But d H H') : FK.But d H (upd H' p o) := fun b u hb e => by
  rw [upd_ne (fun z => by rw [z, n] at e; cases e)]
  exact h b u hb e
/-- a list of drawn things -/
theorem rd_drawn {n : Nat} {d : Addr} {i : Nat} {te : TE} {vs : List Nat} {σ : L2.St} {H : Hp} {Q : VK} {wi : TI} (Pz : V → Prop) (hw : ∀ R : It → Hp → Prop, R (Itr 0 n) H → wi σ H R) (hn : n < sizeLine) (hd : Dr H d) (hv : ∀ x, wipe ((wipe σ vs).set i (some x)) vs = wipe σ vs)
    (hs : ∀ x H' (R : VK), Dr H' d → (∀ v H'', Pz v → Dr H'' d → FK.But d H' H'' → R v H'') → te ((wipe σ vs).set i (some x)) H' R)
    (go : ∀ D zs H', H D = none → zs.length = n → (∀ z ∈ zs, Pz z) → Dr H' d → FK.But d H H' → H' D = some (.lst zs) → Q (.ref D) H') : tLc wi (gName i) tYes te vs σ H Q := by
  refine FK.rd_lc (J := Itr 0 n) (H1 := H) hw walk_range (fun j acc H' => (∀ z ∈ acc, Pz z) ∧ Dr H' d ∧ FK.But d H H') (fun D hD => ⟨fun z hz => (nomatch hz), hd.at (hd.ne hD), but_at hD .refl⟩) ?_ (fun _ _ _ _ _ => trivial) hn hv ?_ ?_
  · rintro D j acc y H' hD hD2 ⟨h1, h2, h3⟩
    exact ⟨h1, h2.at (hd.ne hD), but_at hD h3⟩
  · rintro D j x acc H' H'' R hD hj ha ⟨h1, h2, h3⟩ hD2 ⟨rfl, rfl⟩ fin
    refine hs _ H'' R h2 fun v H4 hv4 hd4 hb4 => ?_
    refine fin v H4 (hb4 D _ (hd.ne hD) hD2) ⟨fun z hz => ?_, hd4, h3.trans hb4⟩
    rcases List.mem_append.mp hz with hz | hz
    · exact h1 z hz
    · rw [List.mem_singleton.mp hz]
      exact hv4
  · rintro D acc H' hD ha ⟨h1, h2, h3⟩ hD2
    exact go D acc H' hD ha h1 h2 h3 hD2
theorem ints_of {p : Int → Prop} : ∀ {zs : List V}, (∀ z ∈ zs, ∃ n : Int, z = .int n ∧ p n) → ∃ ns : List Int, zs = ns.map V.int ∧ ∀ n ∈ ns, p n
  | [], _ => ⟨[], rfl, fun _ h => nomatch h⟩
  | z :: zs, h => by
    obtain ⟨n, rfl, hn⟩ := h z List.mem_cons_self
    obtain ⟨ns, rfl, hns⟩ := ints_of fun z hz => h z (List.mem_cons_of_mem _ hz)
    exact ⟨n :: ns, rfl, fun m hm => by
      rcases List.mem_cons.mp hm with rfl | hm
      · exact hn
      · exact hns m hm⟩
/-- what stays in the heap: the numbers left, the orders -/
theorem joinL_nil : ∀ ps : List (List Nat), TL.joinL [] ps = ps.flatten
  | [] => rfl
  | [p] => by simp [TL.joinL]
  | p :: q :: r => by
    show p ++ ([] ++ TL.joinL [] (q :: r)) = _
    rw [joinL_nil (q :: r)]
    simp
theorem flat_signs : ∀ cs : List Nat, (cs.map (TL.tl ∘ fun c => (⟨#[c]⟩ : Str))).flatten = cs
  | [] => rfl
  | c :: cs => by
    show [c] ++ (cs.map (TL.tl ∘ fun c => (⟨#[c]⟩ : Str))).flatten = c :: cs
    rw [flat_signs cs]
    rfl
theorem join_signs (cs : List Nat) : Txt.join "" (cs.map fun c => (⟨#[c]⟩ : Str)) = ⟨cs.toArray⟩ := by
  rw [TL.join_eq]
  have h := TL.tl_join "" (cs.map fun c => (⟨#[c]⟩ : Str))
  rw [show TL.tl ("" : Str) = [] from rfl, joinL_nil, List.map_map, flat_signs] at h
  generalize Str.join "" (cs.map fun c => (⟨#[c]⟩ : Str)) = z at h
  obtain ⟨a⟩ := z
  have h2 : a.toList = cs := h
  rw [← h2, Array.toArray_toList]
theorem signs_of {p : Nat → Prop} : ∀ {zs : List V}, (∀ z ∈ zs, ∃ c : Nat, z = .str ⟨#[c]⟩ ∧ p c) → ∃ cs : List Nat, zs = (cs.map fun c => (⟨#[c]⟩ : Str)).map V.str ∧ ∀ c ∈ cs, p c
  | [], _ => ⟨[], rfl, fun _ h => nomatch h⟩
  | z :: zs, h => by
    obtain ⟨n, rfl, hn⟩ := h z List.mem_cons_self
    obtain ⟨ns, rfl, hns⟩ := signs_of fun z hz => h z (List.mem_cons_of_mem _ hz)
    exact ⟨n :: ns, rfl, fun m hm => by
      rcases List.mem_cons.mp hm with rfl | hm
      · exact hn
      · exact hns m hm⟩
/-- a list of drawn things, its length drawn -/
theorem rd_drawn2 {d : Addr} {i : Nat} {te : TE} {vs : List Nat} {σ : L2.St} {H : Hp} {Q : VK} {wi : TI} (Pz : V → Prop) (PN : Nat → Prop) (hw : ∀ R : It → Hp → Prop, (∀ n H1, PN n → Dr H1 d → FK.But d H H1 → R (Itr 0 n) H1) → wi σ H R) (hn : ∀ n, PN n → n < sizeLine) (hv : ∀ x, wipe ((wipe σ vs).set i (some x)) vs = wipe σ vs)
    (hs : ∀ x H' (R : VK), Dr H' d → (∀ v H'', Pz v → Dr H'' d → FK.But d H' H'' → R v H'') → te ((wipe σ vs).set i (some x)) H' R)
    (go : ∀ n D zs H', PN n → zs.length = n → (∀ z ∈ zs, Pz z) → Dr H' d → FK.But d H H' → H' D = some (.lst zs) → Q (.ref D) H') : tLc wi (gName i) tYes te vs σ H Q :=
  hw _ fun n H1 pn hd hb => rd_drawn (wi := fun _ H R => R (Itr 0 n) H) (H := H1) (Q := Q) (te := te) (vs := vs) (σ := σ) (i := i) Pz (fun _ h => h) (hn n pn) hd hv hs fun D zs H' _ hl hz hd' hb' hD => go n D zs H' pn hl hz hd' (hb.trans hb') hD
theorem sum_ones : ∀ cs : List Nat, (cs.map fun _ => 1).sum = cs.length
  | [] => rfl
  | c :: cs => by
    show 1 + (cs.map fun _ => 1).sum = cs.length + 1
    rw [sum_ones cs]
    omega

end
end K19

namespace K19
open PySem PySem.Spec PyProof.Rows L2 Cox
section
variable {P : Program} {w : World} {K : PySem.W.Frag} {mg : Str → Option Value} {base : Heap} {cx : Xs}
theorem back {H H' : Hp} {p : Addr} (s : Same H H') (h : H' p = none) : H p = none := by
  cases e : H p with
  | none => rfl
  | some o => rw [s p o e] at h; cases h
/-- a while loop by an invariant with its measure -/
theorem rd_while {c : TT} {tb : TS} {D : Ends} {σ : L2.St} {H : Hp} (Pv : Nat → L2.St → Hp → Prop) (m : Nat) (h0 : Pv m σ H)
    (hs : ∀ m σ H, Pv m σ H → c σ H fun b H1 => if b = true then tb { D with nx := fun σ' H' => ∃ m', m' < m ∧ Pv m' σ' H', ct := fun σ' H' => ∃ m', m' < m ∧ Pv m' σ' H', bk := D.nx } σ H1 else D.nx σ H1)
    (mono : ∀ σ H Q Q', (∀ b H1, Q b H1 → Q' b H1) → c σ H Q → c σ H Q') : tWhile c tb D σ H := by
  refine ⟨Pv, ⟨m, h0⟩, fun m σ H p => mono σ H _ _ (fun b H1 q => ?_) (hs m σ H p)⟩
  cases b with
  | true => exact iteT ⟨_, fun _ _ z => z, by simpa using q⟩
  | false => simpa using q
theorem lt_shift {x y : Int} {a b : Nat} (ha : x.natAbs < 2 ^ a) (hb : y.natAbs < 2 ^ b) (h : a + b ≤ 1000000) (a0 : 0 < a) (b0 : 0 < b) : CMulW x y := wide_mul ha hb a0 b0 h
theorem cshl {x : Int} {k bits : Nat} (h : x.natAbs < 2 ^ k) (h0 : 0 < k) (hk : k + bits ≤ 2 ^ 27) : CShl x (bits : Int) := by
  refine ⟨by omega, ?_⟩
  have e : Builtin.Int.intBits x ≤ k := by
    unfold Builtin.Int.intBits
    split
    · omega
    · have := PySem.Flt.log2_lt_of h0 h
      omega
  have e2 : ((2 : Int) ^ 27) = 134217728 := by decide
  have e3 : (2 ^ 27 : Nat) = 134217728 := by decide
  omega
theorem pow2 (bits : Nat) : ((2 : Int) ^ bits) = ((2 ^ bits : Nat) : Int) := by simp
theorem sine_at {d : Int} {bits k j : Nat} (h : sineOk d bits k = true) (hj : j ≤ k) : (sineF d (2 ^ bits) j).1.natAbs < 2 ^ (bits + 60) ∧ (sineF d (2 ^ bits) j).2.1.natAbs < 2 ^ (bits + 60) ∧ (sineF d (2 ^ bits) j).2.2.1.natAbs < 2 ^ (bits + 60) ∧ (sineF d (2 ^ bits) j).2.2.2.natAbs < 2 ^ (bits + 60) := by
  have := List.all_eq_true.mp h j (List.mem_range.mpr (by omega))
  simp only [Bool.and_eq_true, decide_eq_true_eq] at this
  exact this
def spSine : Sp := fun vs H Q _ => ∃ (n bits : Nat) (d : Int), vs = [.int (n : Int), .int d, .int (bits : Int)] ∧ 1 ≤ n ∧ n ≤ 12 ∧ bits ≤ 9000 ∧ d.natAbs < 2 ^ (bits + 2) ∧ sineOk d bits (n - 1) = true ∧
  ∀ p H', Same H H' → H p = none → H' p = some (.tup [.int (sineF d (2 ^ bits) (n - 1)).2.1, .int (sineF d (2 ^ bits) (n - 1)).2.2.2]) → Q (.ref p) H'
theorem ok_sine_ratio (T : Txt K mg cx) : FK.Has P w K mg base CX0 1 "sine_ratio" ["order", "double", "bits"] spSine := by
  refine T.d_sine_ratio.ok sc_sine_ratio (fun vs H Q E h => ?_) (fun f cdv A outer s H vs Q E hr h => ?_)
  · obtain ⟨n, bits, d, rfl, _⟩ := h
    rfl
  · obtain ⟨n, bits, d, rfl, n1, n2, hb, hd, ok, q⟩ := h
    refine ⟨_, (pss_cons (ps_par (i := 4) (j := 5) (by rfl) sc_sine_ratio.nd rfl rfl (by decide) rfl rfl (pa_cons pe_int (pa_cons (pe_op op_shlN pe_int (pv 2)) pa_nil)) (by first | rfl | kernel_rfl | with_unfolding_all rfl))
  (pss_cons (ps_asg (pe_tup (pa_cons pe_int (pa_cons pe_int pa_nil))) (pg_tup rfl (pgs_cons (pg_name (i := 6) sc_sine_ratio.nd rfl (Or.inl rfl)) (pgs_cons (pg_name (i := 7) sc_sine_ratio.nd rfl (Or.inl rfl)) pgs_nil))))
  (pss_cons (ps_for PassesOwn.never rfl (pi_range1 rfl T.n_range (pa_cons (pe_op op_sub (pv 0) pe_int) pa_nil)) (pg_name (i := 3) sc_sine_ratio.nd rfl (Or.inl rfl))
  (pss_cons (ps_par (i := 6) (j := 7) (by rfl) sc_sine_ratio.nd rfl rfl (by decide) rfl rfl (pa_cons (pv 7) (pa_cons (pe_op op_sub (pe_op op_add (pv 5) (pe_op op_shrN (pe_op op_mulW (pv 1) (pv 7)) (pv 2))) (pv 6)) pa_nil)) (by first | rfl | kernel_rfl | with_unfolding_all rfl))
  (pss_one (ps_par (i := 4) (j := 5) (by rfl) sc_sine_ratio.nd rfl rfl (by decide) rfl rfl (pa_cons (pv 5) (pa_cons (pe_op op_sub (pe_op op_shrN (pe_op op_mulW (pv 1) (pv 5)) (pv 2)) (pv 4)) pa_nil)) (by first | rfl | kernel_rfl | with_unfolding_all rfl)))))
  (pss_one (ps_ret (pe_tup (pa_cons (pv 5) (pa_cons (pv 7) pa_nil)))))))), ?_⟩
    simp only [tSeq, tIfS, tOr, tAnd, tB, tTest, tCB, tCons, tVar, tC, tNil, tNot, tNotV, tRet, tRetN, tNext, tBreak, tOrV, tAndV, tOp, tUn, rEq, rNe, tChain, rI0, rI, rU, tAsg, gName, tDrop, tAug, ipI, tIf, tCall, tCallS, tLst, tTup, tBM, tBM0, rAppend, rExtend, rPop, rReverse, tyV, rIxL, rIxT, rIxS, rIsB, rNotB, L2.start, List.map_cons, List.map_nil, List.length_cons, List.length_nil, List.replicate, List.cons_append, List.nil_append, List.append_nil, List.getElem?_cons_zero, List.getElem?_cons_succ, List.set_cons_zero, List.set_cons_succ, Nat.reduceAdd, Nat.reduceSub, Option.some.injEq, exists_eq_left', exists_eq_left, V.int.injEq, V.bl.injEq, V.str.injEq, V.ref.injEq, List.cons.injEq, and_true, true_and, and_assoc, reduceCtorEq, false_and, exists_false, or_false, false_or, exists_and_left, exists_const, scal, Int.reduceLT, Int.reduceLE, Int.reduceSub, Int.reduceAdd, Int.reduceNeg, if_true, if_false, tPar, iRng1]
    refine ⟨bits, rfl, cshl (x := 1) (k := 1) (by decide) (by omega) (by omega), by decide, fun p0 hp0 => ⟨p0, _, rfl, SqT.of upd_same, rfl, _, _, rfl, _, _, rfl, rfl, ?_⟩⟩
    refine FK.rd_for (J := Itr 0 (n - 1)) (H1 := upd H p0 (.tup [.int 0, .int 0])) (fun R r => by simp only [tSeq, tIfS, tOr, tAnd, tB, tTest, tCB, tCons, tVar, tC, tNil, tNot, tNotV, tRet, tRetN, tNext, tBreak, tOrV, tAndV, tOp, tUn, rEq, rNe, tChain, rI0, rI, rU, tAsg, gName, tDrop, tAug, ipI, tIf, tCall, tCallS, tLst, tTup, tBM, tBM0, rAppend, rExtend, rPop, rReverse, tyV, rIxL, rIxT, rIxS, rIsB, rNotB, L2.start, List.map_cons, List.map_nil, List.length_cons, List.length_nil, List.replicate, List.cons_append, List.nil_append, List.append_nil, List.getElem?_cons_zero, List.getElem?_cons_succ, List.set_cons_zero, List.set_cons_succ, Nat.reduceAdd, Nat.reduceSub, Option.some.injEq, exists_eq_left', exists_eq_left, V.int.injEq, V.bl.injEq, V.str.injEq, V.ref.injEq, List.cons.injEq, and_true, true_and, and_assoc, reduceCtorEq, false_and, exists_false, or_false, false_or, exists_and_left, exists_const, scal, Int.reduceLT, Int.reduceLE, Int.reduceSub, Int.reduceAdd, Int.reduceNeg, if_true, if_false, iRng1]; exact ⟨by omega, by omega, by rw [show ((n : Int) - 1).toNat = n - 1 by omega]; exact r⟩) walk_range
      (fun i σ H' => ∃ v3 : Option V, σ = [some (.int n), some (.int d), some (.int bits), v3, some (.int (sineF d (2 ^ bits) i).1), some (.int (sineF d (2 ^ bits) i).2.1), some (.int (sineF d (2 ^ bits) i).2.2.1), some (.int (sineF d (2 ^ bits) i).2.2.2)] ∧ H' = upd H p0 (.tup [.int 0, .int 0]))
      ⟨none, by rw [show (1 : Int) * 2 ^ bits = 2 ^ bits by omega]; rfl, rfl⟩ (fun _ _ _ _ _ => trivial) ?_ ?_
    · rintro i x σ H1 H2 hi ⟨v3, rfl, rfl⟩ ⟨rfl, rfl⟩
      obtain ⟨s1, s2, s3, s4⟩ := sine_at ok (j := i) (by omega)
      simp only [tSeq, tIfS, tOr, tAnd, tB, tTest, tCB, tCons, tVar, tC, tNil, tNot, tNotV, tRet, tRetN, tNext, tBreak, tOrV, tAndV, tOp, tUn, rEq, rNe, tChain, rI0, rI, rU, tAsg, gName, tDrop, tAug, ipI, tIf, tCall, tCallS, tLst, tTup, tBM, tBM0, rAppend, rExtend, rPop, rReverse, tyV, rIxL, rIxT, rIxS, rIsB, rNotB, L2.start, List.map_cons, List.map_nil, List.length_cons, List.length_nil, List.replicate, List.cons_append, List.nil_append, List.append_nil, List.getElem?_cons_zero, List.getElem?_cons_succ, List.set_cons_zero, List.set_cons_succ, Nat.reduceAdd, Nat.reduceSub, Option.some.injEq, exists_eq_left', exists_eq_left, V.int.injEq, V.bl.injEq, V.str.injEq, V.ref.injEq, List.cons.injEq, and_true, true_and, and_assoc, reduceCtorEq, false_and, exists_false, or_false, false_or, exists_and_left, exists_const, scal, Int.reduceLT, Int.reduceLE, Int.reduceSub, Int.reduceAdd, Int.reduceNeg, if_true, if_false, tPar]
      refine ⟨lt_shift hd s4 (by omega) (by omega) (by omega), bits, rfl, lt_shift hd s2 (by omega) (by omega) (by omega), bits, rfl, ?_⟩
      simp [sineF]
    · rintro σ H1 ⟨v3, rfl, rfl⟩
      simp only [tSeq, tIfS, tOr, tAnd, tB, tTest, tCB, tCons, tVar, tC, tNil, tNot, tNotV, tRet, tRetN, tNext, tBreak, tOrV, tAndV, tOp, tUn, rEq, rNe, tChain, rI0, rI, rU, tAsg, gName, tDrop, tAug, ipI, tIf, tCall, tCallS, tLst, tTup, tBM, tBM0, rAppend, rExtend, rPop, rReverse, tyV, rIxL, rIxT, rIxS, rIsB, rNotB, L2.start, List.map_cons, List.map_nil, List.length_cons, List.length_nil, List.replicate, List.cons_append, List.nil_append, List.append_nil, List.getElem?_cons_zero, List.getElem?_cons_succ, List.set_cons_zero, List.set_cons_succ, Nat.reduceAdd, Nat.reduceSub, Option.some.injEq, exists_eq_left', exists_eq_left, V.int.injEq, V.bl.injEq, V.str.injEq, V.ref.injEq, List.cons.injEq, and_true, true_and, and_assoc, reduceCtorEq, false_and, exists_false, or_false, false_or, exists_and_left, exists_const, scal, Int.reduceLT, Int.reduceLE, Int.reduceSub, Int.reduceAdd, Int.reduceNeg, if_true, if_false]
      exact ⟨by decide, fun p hp => q p _ ((FK.same_new hp0).trans (FK.same_new hp)) (back (FK.same_new hp0) hp) upd_same⟩
def spBend : Sp := fun vs H Q _ => ∃ (n bits : Nat), vs = [.int (n : Int), .int (bits : Int)] ∧ n ≤ 12 ∧ n ≠ 1 ∧ bits ≤ 2500 ∧ (n = 0 ∨ bendOk n bits 40 (2 * 2 ^ bits) = true) ∧
  ∀ H', Same H H' → Q (.int (bendF n bits)) H'
theorem ok_bend_of (T : Txt K mg cx) : FK.Has P w K mg base CX0 2 "bend_of" ["order", "bits"] spBend := by
  have H_sine_ratio := ok_sine_ratio (P := P) (w := w) (base := base) T
  refine T.d_bend_of.ok sc_bend_of (fun vs H Q E h => ?_) (fun f cdv A outer s H vs Q E hr h => ?_)
  · obtain ⟨n, bits, rfl, _⟩ := h
    rfl
  · obtain ⟨n, bits, rfl, hn, n1, hb, ok, q⟩ := h
    refine ⟨_, (pss_cons (ps_set (i := 2) sc_bend_of.nd rfl (Or.inl rfl) (by exact (pe_op op_shlN pe_int (pv 1))))
  (pss_cons (ps_if (pt_cmpR op_eq (pv 0) pe_int (nomark _)) (pss_one (ps_ret (pv 2))) pss_nil)
  (pss_one (ps_while PassesOwn.never (pt_val pe_bl) (pss_cons (ps_asg (FK.pe_h (E := E0) H_sine_ratio (hr.mono (by decide)) pass0 (pa_cons (pv 0) (pa_cons (pv 2) (pa_cons (pv 1) pa_nil)))) (pg_tup rfl (pgs_cons (pg_name (i := 4) sc_bend_of.nd rfl (Or.inl rfl)) (pgs_cons (pg_name (i := 5) sc_bend_of.nd rfl (Or.inl rfl)) pgs_nil))))
  (pss_cons (ps_set (i := 3) sc_bend_of.nd rfl (Or.inl rfl) (by exact (pe_op op_fdivW (pe_op op_shlN (pv 4) (pv 1)) (pv 5))))
  (pss_cons (ps_if (pt_cmpR op_le (pv 3) pe_int (nomark _)) (pss_one (ps_ret (pv 2))) pss_nil)
  (pss_one (ps_set (i := 2) sc_bend_of.nd rfl (Or.inl rfl) (by exact (pe_op op_sub (pv 2) (pv 3)))))))))))), ?_⟩
    simp only [tSeq, tIfS, tOr, tAnd, tB, tTest, tCB, tCons, tVar, tC, tNil, tNot, tNotV, tRet, tRetN, tNext, tBreak, tOrV, tAndV, tOp, tUn, rEq, rNe, tChain, rI0, rI, rU, tAsg, gName, tDrop, tAug, ipI, tIf, tCall, tCallS, tLst, tTup, tBM, tBM0, rAppend, rExtend, rPop, rReverse, tyV, rIxL, rIxT, rIxS, rIsB, rNotB, L2.start, List.map_cons, List.map_nil, List.length_cons, List.length_nil, List.replicate, List.cons_append, List.nil_append, List.append_nil, List.getElem?_cons_zero, List.getElem?_cons_succ, List.set_cons_zero, List.set_cons_succ, Nat.reduceAdd, Nat.reduceSub, Option.some.injEq, exists_eq_left', exists_eq_left, V.int.injEq, V.bl.injEq, V.str.injEq, V.ref.injEq, List.cons.injEq, and_true, true_and, and_assoc, reduceCtorEq, false_and, exists_false, or_false, false_or, exists_and_left, exists_const, scal, Int.reduceLT, Int.reduceLE, Int.reduceSub, Int.reduceAdd, Int.reduceNeg, if_true, if_false]
    refine ⟨bits, rfl, cshl (x := 2) (k := 2) (by decide) (by omega) (by omega), ?_⟩
    refine ite2 (fun c => ?_) (fun c => ?_)
    · have e : n = 0 := by
        have := of_decide_eq_true c
        omega
      have e2 : bendF n bits = 2 * 2 ^ bits := by
        unfold bendF
        rw [if_pos e]
      rw [← e2]
      exact q H (Same.refl H)
    · have n0 : n ≠ 0 := fun z => c (by rw [z]; rfl)
      have ok := ok.resolve_left n0
      refine rd_while (fun m σ H' => ∃ (bend : Int) (v3 v4 v5 : Option V), σ = [some (.int n), some (.int bits), some (.int bend), v3, v4, v5] ∧ bendOk n bits m bend = true ∧ bendLoop n (2 ^ bits) m bend = bendF n bits ∧ Same H H') 40
        ⟨2 * 2 ^ bits, none, none, none, rfl, ok, by unfold bendF; rw [if_neg n0], Same.refl H⟩ ?_ (fun σ H Q Q' hQ h => by
          simp only [tSeq, tIfS, tOr, tAnd, tB, tTest, tCB, tCons, tVar, tC, tNil, tNot, tNotV, tRet, tRetN, tNext, tBreak, tOrV, tAndV, tOp, tUn, rEq, rNe, tChain, rI0, rI, rU, tAsg, gName, tDrop, tAug, ipI, tIf, tCall, tCallS, tLst, tTup, tBM, tBM0, rAppend, rExtend, rPop, rReverse, tyV, rIxL, rIxT, rIxS, rIsB, rNotB, L2.start, List.map_cons, List.map_nil, List.length_cons, List.length_nil, List.replicate, List.cons_append, List.nil_append, List.append_nil, List.getElem?_cons_zero, List.getElem?_cons_succ, List.set_cons_zero, List.set_cons_succ, Nat.reduceAdd, Nat.reduceSub, Option.some.injEq, exists_eq_left', exists_eq_left, V.int.injEq, V.bl.injEq, V.str.injEq, V.ref.injEq, List.cons.injEq, and_true, true_and, and_assoc, reduceCtorEq, false_and, exists_false, or_false, false_or, exists_and_left, exists_const, scal, Int.reduceLT, Int.reduceLE, Int.reduceSub, Int.reduceAdd, Int.reduceNeg, if_true, if_false] at h ⊢
          exact hQ _ _ h)
      rintro m σ H1 ⟨bend, v3, v4, v5, rfl, o1, o2, s1⟩
      match m, o1, o2 with
      | m + 1, o1, o2 =>
        unfold bendOk at o1
        have o2 : (if (sineF bend (2 ^ bits) (n - 1)).2.1 * 2 ^ bits / (sineF bend (2 ^ bits) (n - 1)).2.2.2 ≤ 0 then bend else bendLoop n (2 ^ bits) m (bend - (sineF bend (2 ^ bits) (n - 1)).2.1 * 2 ^ bits / (sineF bend (2 ^ bits) (n - 1)).2.2.2)) = bendF n bits := o2
        simp only [Bool.and_eq_true, decide_eq_true_eq] at o1
        obtain ⟨b1, b2, b3, b4⟩ := o1
        obtain ⟨g1, g2, g3, g4⟩ := sine_at b2 (Nat.le_refl _)
        simp only [tSeq, tIfS, tOr, tAnd, tB, tTest, tCB, tCons, tVar, tC, tNil, tNot, tNotV, tRet, tRetN, tNext, tBreak, tOrV, tAndV, tOp, tUn, rEq, rNe, tChain, rI0, rI, rU, tAsg, gName, tDrop, tAug, ipI, tIf, tCall, tCallS, tLst, tTup, tBM, tBM0, rAppend, rExtend, rPop, rReverse, tyV, rIxL, rIxT, rIxS, rIsB, rNotB, L2.start, List.map_cons, List.map_nil, List.length_cons, List.length_nil, List.replicate, List.cons_append, List.nil_append, List.append_nil, List.getElem?_cons_zero, List.getElem?_cons_succ, List.set_cons_zero, List.set_cons_succ, Nat.reduceAdd, Nat.reduceSub, Option.some.injEq, exists_eq_left', exists_eq_left, V.int.injEq, V.bl.injEq, V.str.injEq, V.ref.injEq, List.cons.injEq, and_true, true_and, and_assoc, reduceCtorEq, false_and, exists_false, or_false, false_or, exists_and_left, exists_const, scal, Int.reduceLT, Int.reduceLE, Int.reduceSub, Int.reduceAdd, Int.reduceNeg, if_true, if_false]
        refine ⟨n, bits, bend, rfl, by omega, hn, by omega, b1, b2, fun p H2 s2 hp e2 => ?_⟩
        refine ⟨p, _, rfl, SqT.of e2, rfl, _, _, rfl, _, _, rfl, rfl, ?_⟩
        simp only [tSeq, tIfS, tOr, tAnd, tB, tTest, tCB, tCons, tVar, tC, tNil, tNot, tNotV, tRet, tRetN, tNext, tBreak, tOrV, tAndV, tOp, tUn, rEq, rNe, tChain, rI0, rI, rU, tAsg, gName, tDrop, tAug, ipI, tIf, tCall, tCallS, tLst, tTup, tBM, tBM0, rAppend, rExtend, rPop, rReverse, tyV, rIxL, rIxT, rIxS, rIsB, rNotB, L2.start, List.map_cons, List.map_nil, List.length_cons, List.length_nil, List.replicate, List.cons_append, List.nil_append, List.append_nil, List.getElem?_cons_zero, List.getElem?_cons_succ, List.set_cons_zero, List.set_cons_succ, Nat.reduceAdd, Nat.reduceSub, Option.some.injEq, exists_eq_left', exists_eq_left, V.int.injEq, V.bl.injEq, V.str.injEq, V.ref.injEq, List.cons.injEq, and_true, true_and, and_assoc, reduceCtorEq, false_and, exists_false, or_false, false_or, exists_and_left, exists_const, scal, Int.reduceLT, Int.reduceLE, Int.reduceSub, Int.reduceAdd, Int.reduceNeg, if_true, if_false]
        refine ⟨bits, rfl, cshl g2 (by omega) (by omega), ⟨b3, Nat.lt_of_lt_of_le (PySem.Flt.log2_lt_of (by omega) g4) (by omega)⟩, ?_⟩
        refine ite2 (fun c => ?_) (fun c => ?_)
        · have c := of_decide_eq_true c
          rw [if_pos c] at o2
          rw [o2]
          exact q H2 (s1.trans s2)
        · have c := (fun z => c (decide_eq_true z) : ¬ _)
          rw [if_neg c] at o2 b4
          exact ⟨m, by omega, b4, o2, s1.trans s2⟩
/-- three whole numbers by letter -/
def v3i (D : Fin 3 → Int) : List V := [.int (D 0), .int (D 1), .int (D 2)]
def bendT (a b c bits : Nat) : Fin 3 → Fin 3 → Int := tri 0 (bendF a bits) (bendF b bits) (bendF c bits)
/-- the scale of this many bits -/
def ScAt (K : PySem.W.Frag) (H : Hp) (p : Addr) (a b c bits : Nat) : Prop :=
  ∃ bt : Addr, H p = some (.tup [.int (bits : Int), .ref bt]) ∧ H bt = some (.tup [.int (bendF a bits), .int (bendF b bits), .int (bendF c bits)])
theorem ScAt.same {H H' : Hp} {p : Addr} {a b c bits : Nat} (h : ScAt K H p a b c bits) (s : Same H H') : ScAt K H' p a b c bits := by
  obtain ⟨bt, h1, h2⟩ := h
  exact ⟨bt, s _ _ h1, s _ _ h2⟩
def bitsOf (s : Nat) : Nat := 256 * (s + 1) + 32
def spScaleFor (K : PySem.W.Frag) : Sp := fun vs H Q _ => ∃ (o : Addr) (a b c s : Nat), vs = [.ref o, .int ((128 * (s + 1) : Nat) : Int)] ∧ SqT K H o [.int (a : Int), .int (b : Int), .int (c : Int)] ∧ okOrd a ∧ okOrd b ∧ okOrd c ∧ s < 8 ∧
  ∀ p H', Same H H' → H p = none → ScAt K H' p a b c (bitsOf s) → Q (.ref p) H'
theorem ok_scale_for (T : Txt K mg cx) : FK.Has P w K mg base CX0 3 "scale_for" ["orders", "steps"] (spScaleFor K) := by
  have H_bend_of := ok_bend_of (P := P) (w := w) (base := base) T
  refine T.d_scale_for.ok sc_scale_for (fun vs H Q E h => ?_) (fun f cdv A outer s H vs Q E hr h => ?_)
  · obtain ⟨o, a, b, c, s, rfl, _⟩ := h
    rfl
  · obtain ⟨o, a, b, c, s, rfl, hS, ha, hb, hc, hs, q⟩ := h
    refine ⟨_, (pss_cons (ps_set (i := 2) sc_scale_for.nd rfl (Or.inr rfl) (by exact (pe_op op_add (pe_op op_mulW pe_int (pv 1)) (pe_glob (v := .int 32) rfl T.c_GUARD ⟨_, rfl⟩))))
  (pss_one (ps_ret (pe_tup (pa_cons (pv 2) (pa_cons (pe_callTy call_tuple_of (by rfl) T.n_tuple (by decide +kernel) (pa_cons (pe_lc (own := [("order", 3)]) (g := gName 3) (tt := tYes) rfl sc_scale_for.nd (pi_tup (pv 0)) (blkOk_by (own := [("order", 3)]) (N := ["orders", "steps", "bits", "order"]) (sc := defScope s_scale_for) (by decide +kernel)) (fun _ _ _ _ _ => (pg_name (i := 3) sc_scale_for.nd rfl (Or.inl rfl))) (fun _ _ _ _ _ => pts_nil) (fun _ _ _ _ _ => (FK.pe_h (E := E0) H_bend_of (hr.mono (by decide)) pass0 (pa_cons (pv 3) (pa_cons (pv 2) pa_nil))))) pa_nil)) pa_nil)))))), ?_⟩
    simp only [tSeq, tIfS, tOr, tAnd, tB, tTest, tCB, tCons, tVar, tC, tNil, tNot, tNotV, tRet, tRetN, tNext, tBreak, tOrV, tAndV, tOp, tUn, rEq, rNe, tChain, rI0, rI, rU, tAsg, gName, tDrop, tAug, ipI, tIf, tCall, tCallS, tLst, tTup, tBM, tBM0, rAppend, rExtend, rPop, rReverse, tyV, rIxL, rIxT, rIxS, rIsB, rNotB, L2.start, List.map_cons, List.map_nil, List.length_cons, List.length_nil, List.replicate, List.cons_append, List.nil_append, List.append_nil, List.getElem?_cons_zero, List.getElem?_cons_succ, List.set_cons_zero, List.set_cons_succ, Nat.reduceAdd, Nat.reduceSub, Option.some.injEq, exists_eq_left', exists_eq_left, V.int.injEq, V.bl.injEq, V.str.injEq, V.ref.injEq, List.cons.injEq, and_true, true_and, and_assoc, reduceCtorEq, false_and, exists_false, or_false, false_or, exists_and_left, exists_const, scal, Int.reduceLT, Int.reduceLE, Int.reduceSub, Int.reduceAdd, Int.reduceNeg, if_true, if_false]
    have eb : 2 * ((128 * (s + 1) : Nat) : Int) + 32 = ((bitsOf s : Nat) : Int) := by unfold bitsOf; omega
    have hbl : bitsOf s ≤ 2500 := by unfold bitsOf; omega
    have le12 : ∀ {n : Nat}, okOrd n → n ≤ 12 ∧ n ≠ 1 := fun {n} h => by rcases h with h | h <;> omega
    have okb : ∀ {n : Nat}, okOrd n → (n = 0 ∨ bendOk n (bitsOf s) 40 (2 * 2 ^ bitsOf s) = true) := fun {n} h => by
      by_cases z : n = 0
      · exact .inl z
      · exact .inr (bendOk_of hs h z)
    rw [eb]
    refine ⟨wide_mul (a := 2) (b := 30) (by decide) (by omega) (by decide) (by decide) (by decide), ?_⟩
    refine FK.rd_lc_same (J := Itt K o) (H1 := H) [.int (bendF a (bitsOf s)), .int (bendF b (bitsOf s)), .int (bendF c (bitsOf s))] (fun R r => ⟨_, rfl, o, rfl, ⟨_, hS⟩, r⟩) (walk_tup (xs := [V.int (a : Int), .int (b : Int), .int (c : Int)])) (fun H' s' => FK.Same.tupS s' hS) (by show 3 < 16777216; decide) (fun _ => rfl) ?_ ?_ (fun _ _ _ _ z => by obtain ⟨rfl, _⟩ := z; exact Same.refl _)
    · rintro j x z H' H'' R hz s1 ⟨rfl, hx⟩ go
      have one : ∀ (n : Nat), okOrd n → x = .int (n : Int) → z = .int (bendF n (bitsOf s)) → tCall spBend [] E0 (tCons (tVar 3) (tCons (tVar 2) tNil)) ((wipe [some (V.ref o), some (V.int ↑(128 * (s + 1))), some (V.int (bitsOf s : Nat)), none] [3]).set 3 (some x)) H'' R := by
        rintro n hn rfl rfl
        exact ⟨_, rfl, _, rfl, n, bitsOf s, rfl, (le12 hn).1, (le12 hn).2, hbl, okb hn, fun H4 s4 => go H4 s4⟩
      match j, hz, hx with
      | 0, hz, hx => cases hz; cases hx; exact one a ha rfl rfl
      | 1, hz, hx => cases hz; cases hx; exact one b hb rfl rfl
      | 2, hz, hx => cases hz; cases hx; exact one c hc rfl rfl
      | _ + 3, hz, _ => simp at hz
    · intro D H' hD s1 hD2
      refine ⟨D, rfl, _, .inl ⟨SqL.of hD2, fun l hl => ⟨by decide, fun p hp => q p _ ?_ ?_ ⟨l, upd_same, ?_⟩⟩⟩⟩
      · exact (s1.trans (FK.same_new hl)).trans (FK.same_new hp)
      · exact back s1 (back (FK.same_new hl) hp)
      · rw [upd_ne (fun z => by rw [← z, upd_same] at hp; cases hp), upd_same]

def TT (s : Nat) : Int := ((2 ^ bitsOf s : Nat) : Int)
theorem TT_pow (s : Nat) : ((2 : Int) ^ bitsOf s) = TT s := by simp [TT]
def spFirst (K : PySem.W.Frag) : Sp := fun vs H Q _ => ∃ (sc : Addr) (a b c s : Nat), vs = [.ref sc] ∧ ScAt K H sc a b c (bitsOf s) ∧ s < 8 ∧
  ∀ p H', Same H H' → H p = none → H' p = some (.tup (v3i fun _ => TT s)) → Q (.ref p) H'
theorem ok_first_depths (T : Txt K mg cx) : FK.Has P w K mg base CX0 1 "first_depths" ["scale"] (spFirst K) := by
  refine T.d_first_depths.ok sc_first_depths (fun vs H Q E h => ?_) (fun f cdv A outer s H vs Q E hr h => ?_)
  · obtain ⟨o, a, b, c, s, rfl, _⟩ := h
    rfl
  · obtain ⟨o, a, b, c, s, rfl, ⟨bt, h1, h2⟩, hs, q⟩ := h
    refine ⟨_, (pss_cons (ps_set (i := 1) sc_first_depths.nd rfl (Or.inl rfl) (by exact (pe_op op_shlN pe_int (pe_ix (r := rIxT K) ix_tup (pv 0) pe_int (fun _ _ => rfl)))))
  (pss_one (ps_ret (pe_tup (pa_cons (pv 1) (pa_cons (pv 1) (pa_cons (pv 1) pa_nil))))))), ?_⟩
    simp only [tSeq, tIfS, tOr, tAnd, tB, tTest, tCB, tCons, tVar, tC, tNil, tNot, tNotV, tRet, tRetN, tNext, tBreak, tOrV, tAndV, tOp, tUn, rEq, rNe, tChain, rI0, rI, rU, tAsg, gName, tDrop, tAug, ipI, tIf, tCall, tCallS, tLst, tTup, tBM, tBM0, rAppend, rExtend, rPop, rReverse, tyV, rIxL, rIxT, rIxS, rIsB, rNotB, L2.start, List.map_cons, List.map_nil, List.length_cons, List.length_nil, List.replicate, List.cons_append, List.nil_append, List.append_nil, List.getElem?_cons_zero, List.getElem?_cons_succ, List.set_cons_zero, List.set_cons_succ, Nat.reduceAdd, Nat.reduceSub, Option.some.injEq, exists_eq_left', exists_eq_left, V.int.injEq, V.bl.injEq, V.str.injEq, V.ref.injEq, List.cons.injEq, and_true, true_and, and_assoc, reduceCtorEq, false_and, exists_false, or_false, false_or, exists_and_left, exists_const, scal, Int.reduceLT, Int.reduceLE, Int.reduceSub, Int.reduceAdd, Int.reduceNeg, if_true, if_false]
    refine ⟨_, SqT.of h1, _, rfl, bitsOf s, rfl, cshl (x := 1) (k := 1) (by decide) (by omega) (by unfold bitsOf; omega), by decide, fun p hp => ?_⟩
    refine q p _ (FK.same_new hp) hp ?_
    rw [upd_same, show (1 : Int) * 2 ^ bitsOf s = TT s by rw [Int.one_mul, TT_pow]]
    rfl
def Sm (x : Int) : Prop := ∃ k, k ≤ 9000 ∧ 0 < k ∧ x.natAbs < 2 ^ k
theorem mulOk {x y : Int} (hx : Sm x) (hy : Sm y) : CMulW x y := by
  obtain ⟨j, j1, j0, hj⟩ := hx
  obtain ⟨k, k1, k0, hk⟩ := hy
  exact wide_mul hj hk j0 k0 (by omega)
theorem bend_small {s n : Nat} (hs : s < 8) (hn : okOrd n) : Sm (bendF n (bitsOf s)) := by
  have h := bend_abs hs hn
  refine ⟨256 * (s + 1) + 32 + 2, by omega, by omega, ?_⟩
  have e : 2 ^ (256 * (s + 1) + 32 + 2) = 2 ^ (256 * (s + 1) + 32) * 4 := Nat.pow_add 2 _ 2
  have p : 0 < 2 ^ (256 * (s + 1) + 32) := Nat.pow_pos (by decide)
  rw [e]
  show (bendF n (256 * (s + 1) + 32)).natAbs < _
  generalize 2 ^ (256 * (s + 1) + 32) = t at h p ⊢
  omega
theorem stepI_at {B : Fin 3 → Fin 3 → Int} {t : Int} {i : Fin 3} {D : Fin 3 → Int} : v3i (Cox.stepI B t i D) = [.int (Cox.stepI B t i D 0), .int (Cox.stepI B t i D 1), .int (Cox.stepI B t i D 2)] := rfl
theorem step_self {B : Fin 3 → Fin 3 → Int} {t : Int} {i : Fin 3} {D : Fin 3 → Int} : -D i = Cox.stepI B t i D i := by
  unfold Cox.stepI
  rw [if_pos rfl]
theorem step_oth {B : Fin 3 → Fin 3 → Int} {t : Int} {i j : Fin 3} {D : Fin 3 → Int} (h : j ≠ i) : D j + B i j * D i / t = Cox.stepI B t i D j := by
  unfold Cox.stepI
  rw [if_neg h]
theorem tri_at (x y z : Int) : tri 0 x y z 0 1 = x ∧ tri 0 x y z 0 2 = z ∧ tri 0 x y z 1 0 = x ∧ tri 0 x y z 1 2 = y ∧ tri 0 x y z 2 0 = z ∧ tri 0 x y z 2 1 = y := ⟨rfl, rfl, rfl, rfl, rfl, rfl⟩
theorem step_0 (x y z t : Int) (D : Fin 3 → Int) : ([.int (-D 0), .int (D 1 + x * D 0 / t), .int (D 2 + z * D 0 / t)] : List V) = v3i (Cox.stepI (tri 0 x y z) t 0 D) := by
  unfold v3i
  rw [← step_self, ← step_oth (i := 0) (j := 1) (by decide), ← step_oth (i := 0) (j := 2) (by decide), (tri_at x y z).1, (tri_at x y z).2.1]
theorem step_1 (x y z t : Int) (D : Fin 3 → Int) : ([.int (D 0 + x * D 1 / t), .int (-D 1), .int (D 2 + y * D 1 / t)] : List V) = v3i (Cox.stepI (tri 0 x y z) t 1 D) := by
  unfold v3i
  rw [← step_self, ← step_oth (i := 1) (j := 0) (by decide), ← step_oth (i := 1) (j := 2) (by decide), (tri_at x y z).2.2.1, (tri_at x y z).2.2.2.1]
theorem step_2 (x y z t : Int) (D : Fin 3 → Int) : ([.int (D 0 + z * D 2 / t), .int (D 1 + y * D 2 / t), .int (-D 2)] : List V) = v3i (Cox.stepI (tri 0 x y z) t 2 D) := by
  unfold v3i
  rw [← step_self, ← step_oth (i := 2) (j := 0) (by decide), ← step_oth (i := 2) (j := 1) (by decide), (tri_at x y z).2.2.2.2.1, (tri_at x y z).2.2.2.2.2]
theorem iteT' {c : Prop} [Decidable c] {p q : Prop} (h : c) (hp : p) : if c then p else q := by rw [if_pos h]; exact hp
theorem iteF' {c : Prop} [Decidable c] {p q : Prop} (h : ¬ c) (hq : q) : if c then p else q := by rw [if_neg h]; exact hq
def spBehind (K : PySem.W.Frag) : Sp := fun vs H Q _ => ∃ (sc dp : Addr) (a b c s : Nat) (D : Fin 3 → Int) (i : Fin 3), vs = [.ref sc, .ref dp, .str (wS [i])] ∧ ScAt K H sc a b c (bitsOf s) ∧ s < 8 ∧ okOrd a ∧ okOrd b ∧ okOrd c ∧
  H dp = some (.tup (v3i D)) ∧ (∀ j, Sm (D j)) ∧ ∀ p H', Same H H' → H p = none → H' p = some (.tup (v3i (stepI (bendT a b c (bitsOf s)) (TT s) i D))) → Q (.ref p) H'
theorem ok_depths_behind (T : Txt K mg cx) : FK.Has P w K mg base CX0 1 "depths_behind" ["scale", "depths", "letter"] (spBehind K) := by
  refine T.d_depths_behind.ok sc_depths_behind (fun vs H Q E h => ?_) (fun f cdv A outer s H vs Q E hr h => ?_)
  · obtain ⟨sc, dp, a, b, c, s, D, i, rfl, _⟩ := h
    rfl
  · obtain ⟨sc, dp, a, b, c, s, D, i, rfl, ⟨bt, h1, h2⟩, hs, ha, hb, hc, hD, hl, q⟩ := h
    refine ⟨_, (pss_cons (ps_asg (pv 0) (pg_tup rfl (pgs_cons (pg_name (i := 3) sc_depths_behind.nd rfl (Or.inl rfl)) (pgs_cons (pg_tup rfl (pgs_cons (pg_name (i := 7) sc_depths_behind.nd rfl (Or.inl rfl)) (pgs_cons (pg_name (i := 8) sc_depths_behind.nd rfl (Or.inl rfl)) (pgs_cons (pg_name (i := 9) sc_depths_behind.nd rfl (Or.inl rfl)) pgs_nil)))) pgs_nil))))
  (pss_cons (ps_asg (pv 1) (pg_tup rfl (pgs_cons (pg_name (i := 4) sc_depths_behind.nd rfl (Or.inl rfl)) (pgs_cons (pg_name (i := 5) sc_depths_behind.nd rfl (Or.inl rfl)) (pgs_cons (pg_name (i := 6) sc_depths_behind.nd rfl (Or.inl rfl)) pgs_nil)))))
  (pss_cons (ps_if (pt_cmpR op_eq (pv 2) pe_str (nomark _)) (pss_one (ps_ret (pe_tup (pa_cons (pe_un un_neg (pv 4)) (pa_cons (pe_op op_add (pv 5) (pe_op op_shrN (pe_op op_mulW (pv 7) (pv 4)) (pv 3))) (pa_cons (pe_op op_add (pv 6) (pe_op op_shrN (pe_op op_mulW (pv 9) (pv 4)) (pv 3))) pa_nil)))))) pss_nil)
  (pss_cons (ps_if (pt_cmpR op_eq (pv 2) pe_str (nomark _)) (pss_one (ps_ret (pe_tup (pa_cons (pe_op op_add (pv 4) (pe_op op_shrN (pe_op op_mulW (pv 7) (pv 5)) (pv 3))) (pa_cons (pe_un un_neg (pv 5)) (pa_cons (pe_op op_add (pv 6) (pe_op op_shrN (pe_op op_mulW (pv 8) (pv 5)) (pv 3))) pa_nil)))))) pss_nil)
  (pss_one (ps_ret (pe_tup (pa_cons (pe_op op_add (pv 4) (pe_op op_shrN (pe_op op_mulW (pv 9) (pv 6)) (pv 3))) (pa_cons (pe_op op_add (pv 5) (pe_op op_shrN (pe_op op_mulW (pv 8) (pv 6)) (pv 3))) (pa_cons (pe_un un_neg (pv 6)) pa_nil)))))))))), ?_⟩
    simp only [tSeq, tIfS, tOr, tAnd, tB, tTest, tCB, tCons, tVar, tC, tNil, tNot, tNotV, tRet, tRetN, tNext, tBreak, tOrV, tAndV, tOp, tUn, rEq, rNe, tChain, rI0, rI, rU, tAsg, gName, tDrop, tAug, ipI, tIf, tCall, tCallS, tLst, tTup, tBM, tBM0, rAppend, rExtend, rPop, rReverse, tyV, rIxL, rIxT, rIxS, rIsB, rNotB, L2.start, List.map_cons, List.map_nil, List.length_cons, List.length_nil, List.replicate, List.cons_append, List.nil_append, List.append_nil, List.getElem?_cons_zero, List.getElem?_cons_succ, List.set_cons_zero, List.set_cons_succ, Nat.reduceAdd, Nat.reduceSub, Option.some.injEq, exists_eq_left', exists_eq_left, V.int.injEq, V.bl.injEq, V.str.injEq, V.ref.injEq, List.cons.injEq, and_true, true_and, and_assoc, reduceCtorEq, false_and, exists_false, or_false, false_or, exists_and_left, exists_const, scal, Int.reduceLT, Int.reduceLE, Int.reduceSub, Int.reduceAdd, Int.reduceNeg, if_true, if_false]
    refine ⟨sc, _, rfl, SqT.of h1, rfl, _, _, rfl, _, _, rfl, bt, _, rfl, SqT.of h2, rfl, _, _, rfl, _, _, rfl, _, _, rfl, rfl, rfl, ?_⟩
    simp only [tSeq, tIfS, tOr, tAnd, tB, tTest, tCB, tCons, tVar, tC, tNil, tNot, tNotV, tRet, tRetN, tNext, tBreak, tOrV, tAndV, tOp, tUn, rEq, rNe, tChain, rI0, rI, rU, tAsg, gName, tDrop, tAug, ipI, tIf, tCall, tCallS, tLst, tTup, tBM, tBM0, rAppend, rExtend, rPop, rReverse, tyV, rIxL, rIxT, rIxS, rIsB, rNotB, L2.start, List.map_cons, List.map_nil, List.length_cons, List.length_nil, List.replicate, List.cons_append, List.nil_append, List.append_nil, List.getElem?_cons_zero, List.getElem?_cons_succ, List.set_cons_zero, List.set_cons_succ, Nat.reduceAdd, Nat.reduceSub, Option.some.injEq, exists_eq_left', exists_eq_left, V.int.injEq, V.bl.injEq, V.str.injEq, V.ref.injEq, List.cons.injEq, and_true, true_and, and_assoc, reduceCtorEq, false_and, exists_false, or_false, false_or, exists_and_left, exists_const, scal, Int.reduceLT, Int.reduceLE, Int.reduceSub, Int.reduceAdd, Int.reduceNeg, if_true, if_false]
    refine ⟨dp, _, rfl, SqT.of hD, rfl, _, _, rfl, _, _, rfl, _, _, rfl, rfl, ?_⟩
    simp only [tSeq, tIfS, tOr, tAnd, tB, tTest, tCB, tCons, tVar, tC, tNil, tNot, tNotV, tRet, tRetN, tNext, tBreak, tOrV, tAndV, tOp, tUn, rEq, rNe, tChain, rI0, rI, rU, tAsg, gName, tDrop, tAug, ipI, tIf, tCall, tCallS, tLst, tTup, tBM, tBM0, rAppend, rExtend, rPop, rReverse, tyV, rIxL, rIxT, rIxS, rIsB, rNotB, L2.start, List.map_cons, List.map_nil, List.length_cons, List.length_nil, List.replicate, List.cons_append, List.nil_append, List.append_nil, List.getElem?_cons_zero, List.getElem?_cons_succ, List.set_cons_zero, List.set_cons_succ, Nat.reduceAdd, Nat.reduceSub, Option.some.injEq, exists_eq_left', exists_eq_left, V.int.injEq, V.bl.injEq, V.str.injEq, V.ref.injEq, List.cons.injEq, and_true, true_and, and_assoc, reduceCtorEq, false_and, exists_false, or_false, false_or, exists_and_left, exists_const, scal, Int.reduceLT, Int.reduceLE, Int.reduceSub, Int.reduceAdd, Int.reduceNeg, if_true, if_false]
    have sa := bend_small hs ha
    have sb := bend_small hs hb
    have sc' := bend_small hs hc
    rcases let3 i with ⟨e, rfl⟩ | ⟨e, rfl⟩ | ⟨e, rfl⟩
    · rw [e]
      refine iteT' (by decide +kernel) ⟨mulOk sa (hl 0), bitsOf s, rfl, mulOk sc' (hl 0), bitsOf s, rfl, by decide, fun p hp => q p _ (FK.same_new hp) hp ?_⟩
      rw [upd_same, TT_pow, step_0 _ (bendF b (bitsOf s)) _]
      rfl
    · rw [e]
      refine iteF' (by decide +kernel) (iteT' (by decide +kernel) ⟨mulOk sa (hl 1), bitsOf s, rfl, mulOk sb (hl 1), bitsOf s, rfl, by decide, fun p hp => q p _ (FK.same_new hp) hp ?_⟩)
      rw [upd_same, TT_pow, step_1 _ _ (bendF c (bitsOf s))]
      rfl
    · rw [e]
      refine iteF' (by decide +kernel) (iteF' (by decide +kernel) ⟨mulOk sc' (hl 2), bitsOf s, rfl, mulOk sb (hl 2), bitsOf s, rfl, by decide, fun p hp => q p _ (FK.same_new hp) hp ?_⟩)
      rw [upd_same, TT_pow, step_2 (bendF a (bitsOf s)) _ _]
      rfl

theorem depI_small {a b c s : Nat} (hs : s < 8) (ha : okOrd a) (hb : okOrd b) (hc : okOrd c) {w : W} (hw : w.length ≤ 2000) (j : Fin 3) : Sm (Cox.depI (bendT a b c (bitsOf s)) (TT s) w j) := by
  have h := dep_abs (B := bendT a b c (bitsOf s)) (T := 2 ^ bitsOf s) (Nat.pow_pos (by decide)) (tri_abs (bend_abs hs ha) (bend_abs hs hb) (bend_abs hs hc)) w j
  refine ⟨bitsOf s + 2 * w.length + 1, by unfold bitsOf; omega, by omega, ?_⟩
  have e : 2 ^ (bitsOf s + 2 * w.length + 1) = 2 * (2 ^ bitsOf s * 4 ^ w.length) := by
    rw [Nat.pow_succ, Nat.pow_add, Nat.pow_mul]
    rw [Nat.mul_comm]
  have p : 0 < 2 ^ bitsOf s * 4 ^ w.length := Nat.mul_pos (Nat.pow_pos (by decide)) (Nat.pow_pos (by decide))
  rw [e]
  show (Cox.depI (bendT a b c (bitsOf s)) ((2 ^ bitsOf s : Nat) : Int) w j).natAbs < _
  generalize 2 ^ bitsOf s * 4 ^ w.length = t at h p ⊢
  omega
theorem drop_rev {w : W} {i : Nat} {x : Fin 3} (h : w.reverse[i]? = some x) : w.drop (w.length - (i + 1)) = x :: w.drop (w.length - i) := by
  have hi : i < w.length := by
    have := (List.getElem?_eq_some_iff.mp h).1
    rwa [List.length_reverse] at this
  rw [List.getElem?_reverse hi] at h
  have h2 : w.length - 1 - i < w.length := by omega
  rw [List.getElem?_eq_getElem h2] at h
  have e := List.drop_eq_getElem_cons h2
  rw [Option.some.inj h] at e
  rw [show w.length - (i + 1) = w.length - 1 - i by omega, e, show w.length - 1 - i + 1 = w.length - i by omega]
def spDepths (K : PySem.W.Frag) : Sp := fun vs H Q _ => ∃ (sc : Addr) (a b c s : Nat) (w : W), vs = [.ref sc, .str (wS w)] ∧ ScAt K H sc a b c (bitsOf s) ∧ s < 8 ∧ okOrd a ∧ okOrd b ∧ okOrd c ∧ w.length ≤ 2000 ∧
  ∀ p H', Same H H' → H p = none → H' p = some (.tup (v3i (Cox.depI (bendT a b c (bitsOf s)) (TT s) w))) → Q (.ref p) H'
theorem ok_depths_of (T : Txt K mg cx) : FK.Has P w K mg base CX0 2 "depths_of" ["scale", "word"] (spDepths K) := by
  have H_first_depths := ok_first_depths (P := P) (w := w) (base := base) T
  have H_depths_behind := ok_depths_behind (P := P) (w := w) (base := base) T
  refine T.d_depths_of.ok sc_depths_of (fun vs H Q E h => ?_) (fun f cdv A outer s H vs Q E hr h => ?_)
  · obtain ⟨sc, a, b, c, s, w, rfl, _⟩ := h
    rfl
  · obtain ⟨sc, a, b, c, s, w, rfl, hsc, hs, ha, hb, hc, hw, q⟩ := h
    refine ⟨_, (pss_cons (ps_set (i := 2) sc_depths_of.nd rfl (Or.inl rfl) (by exact (FK.pe_h (E := E0) H_first_depths (hr.mono (by decide)) pass0 (pa_cons (pv 0) pa_nil))))
  (pss_cons (ps_for PassesOwn.never rfl (pi_str (FK.pe_revS (pv 1))) (pg_name (i := 3) sc_depths_of.nd rfl (Or.inl rfl))
  (pss_one (ps_set (i := 2) sc_depths_of.nd rfl (Or.inl rfl) (by exact (FK.pe_h (E := E0) H_depths_behind (hr.mono (by decide)) pass0 (pa_cons (pv 0) (pa_cons (pv 2) (pa_cons (pv 3) pa_nil))))))))
  (pss_one (ps_ret (pv 2))))), ?_⟩
    simp only [tSeq, tIfS, tOr, tAnd, tB, tTest, tCB, tCons, tVar, tC, tNil, tNot, tNotV, tRet, tRetN, tNext, tBreak, tOrV, tAndV, tOp, tUn, rEq, rNe, tChain, rI0, rI, rU, tAsg, gName, tDrop, tAug, ipI, tIf, tCall, tCallS, tLst, tTup, tBM, tBM0, rAppend, rExtend, rPop, rReverse, tyV, rIxL, rIxT, rIxS, rIsB, rNotB, L2.start, List.map_cons, List.map_nil, List.length_cons, List.length_nil, List.replicate, List.cons_append, List.nil_append, List.append_nil, List.getElem?_cons_zero, List.getElem?_cons_succ, List.set_cons_zero, List.set_cons_succ, Nat.reduceAdd, Nat.reduceSub, Option.some.injEq, exists_eq_left', exists_eq_left, V.int.injEq, V.bl.injEq, V.str.injEq, V.ref.injEq, List.cons.injEq, and_true, true_and, and_assoc, reduceCtorEq, false_and, exists_false, or_false, false_or, exists_and_left, exists_const, scal, Int.reduceLT, Int.reduceLE, Int.reduceSub, Int.reduceAdd, Int.reduceNeg, if_true, if_false]
    refine ⟨sc, a, b, c, s, rfl, hsc, hs, fun p0 H0 s0 hp0 e0 => ?_⟩
    simp only [tSeq, tIfS, tOr, tAnd, tB, tTest, tCB, tCons, tVar, tC, tNil, tNot, tNotV, tRet, tRetN, tNext, tBreak, tOrV, tAndV, tOp, tUn, rEq, rNe, tChain, rI0, rI, rU, tAsg, gName, tDrop, tAug, ipI, tIf, tCall, tCallS, tLst, tTup, tBM, tBM0, rAppend, rExtend, rPop, rReverse, tyV, rIxL, rIxT, rIxS, rIsB, rNotB, L2.start, List.map_cons, List.map_nil, List.length_cons, List.length_nil, List.replicate, List.cons_append, List.nil_append, List.append_nil, List.getElem?_cons_zero, List.getElem?_cons_succ, List.set_cons_zero, List.set_cons_succ, Nat.reduceAdd, Nat.reduceSub, Option.some.injEq, exists_eq_left', exists_eq_left, V.int.injEq, V.bl.injEq, V.str.injEq, V.ref.injEq, List.cons.injEq, and_true, true_and, and_assoc, reduceCtorEq, false_and, exists_false, or_false, false_or, exists_and_left, exists_const, scal, Int.reduceLT, Int.reduceLE, Int.reduceSub, Int.reduceAdd, Int.reduceNeg, if_true, if_false]
    have ez : (wS w).length ≤ sizeLine := by rw [wS_len]; exact Nat.le_trans hw (by decide)
    refine FK.rd_for (J := Its (wS w.reverse)) (H1 := H0) (fun R r => ⟨_, rfl, wS w, rfl, ez, _, rfl, by rw [wS_rev]; exact r⟩) walk_str
      (fun i σ H' => ∃ (p : Addr) (v3 : Option V), σ = [some (.ref sc), some (.str (wS w)), some (.ref p), v3] ∧ Same H H' ∧ H p = none ∧ H' p = some (.tup (v3i (Cox.depI (bendT a b c (bitsOf s)) (TT s) (w.drop (w.length - i))))))
      ⟨p0, none, rfl, s0, hp0, by rw [Nat.sub_zero, List.drop_length]; exact e0⟩ (fun _ _ _ _ _ => trivial) ?_ ?_
    · rintro i x σ H1 H2 hi ⟨p, v3, rfl, s1, hp, e1⟩ ⟨rfl, ch, hc1, rfl⟩
      obtain ⟨l, hl, el⟩ := wS_at hc1
      rw [el]
      have hi2 : i < w.length := by
        have := hi
        rw [show (wS w.reverse).cps.size = w.length from by rw [← List.length_reverse (as := w)]; exact wS_len _] at this
        exact this
      have ed := drop_rev hl
      refine ⟨_, rfl, _, rfl, _, rfl, sc, p, a, b, c, s, _, l, rfl, hsc.same s1, hs, ha, hb, hc, e1, fun j => depI_small hs ha hb hc (by rw [List.length_drop]; omega) j, fun p2 H3 s3 hp2 e3 => ?_⟩
      refine ⟨p2, some (.str (wS [l])), rfl, s1.trans s3, back s1 hp2, ?_⟩
      rw [e3, ed]
      rfl
    · rintro σ H1 ⟨p, v3, rfl, s1, hp, e1⟩
      have e2 : (wS w.reverse).cps.size = w.length := by rw [← List.length_reverse (as := w)]; exact wS_len _
      rw [e2, Nat.sub_self, List.drop_zero] at e1
      simp only [tSeq, tIfS, tOr, tAnd, tB, tTest, tCB, tCons, tVar, tC, tNil, tNot, tNotV, tRet, tRetN, tNext, tBreak, tOrV, tAndV, tOp, tUn, rEq, rNe, tChain, rI0, rI, rU, tAsg, gName, tDrop, tAug, ipI, tIf, tCall, tCallS, tLst, tTup, tBM, tBM0, rAppend, rExtend, rPop, rReverse, tyV, rIxL, rIxT, rIxS, rIsB, rNotB, L2.start, List.map_cons, List.map_nil, List.length_cons, List.length_nil, List.replicate, List.cons_append, List.nil_append, List.append_nil, List.getElem?_cons_zero, List.getElem?_cons_succ, List.set_cons_zero, List.set_cons_succ, Nat.reduceAdd, Nat.reduceSub, Option.some.injEq, exists_eq_left', exists_eq_left, V.int.injEq, V.bl.injEq, V.str.injEq, V.ref.injEq, List.cons.injEq, and_true, true_and, and_assoc, reduceCtorEq, false_and, exists_false, or_false, false_or, exists_and_left, exists_const, scal, Int.reduceLT, Int.reduceLE, Int.reduceSub, Int.reduceAdd, Int.reduceNeg, if_true, if_false]
      exact q p H1 s1 hp e1
def spFirstFar (K : PySem.W.Frag) : Sp := fun vs H Q _ => ∃ (dp : Addr) (D : Fin 3 → Int), vs = [.ref dp] ∧ H dp = some (.tup (v3i D)) ∧
  ∀ H', Same H H' → Q (.str (match Cox.firstNeg D with | none => "" | some i => wS [i])) H'
theorem ok_first_far (T : Txt K mg cx) : FK.Has P w K mg base CX0 1 "first_far" ["depths"] (spFirstFar K) := by
  refine T.d_first_far.ok sc_first_far (fun vs H Q E h => ?_) (fun f cdv A outer s H vs Q E hr h => ?_)
  · obtain ⟨dp, D, rfl, _⟩ := h
    rfl
  · obtain ⟨dp, D, rfl, hD, q⟩ := h
    refine ⟨_, (pss_cons (ps_asg (pv 0) (pg_tup rfl (pgs_cons (pg_name (i := 1) sc_first_far.nd rfl (Or.inl rfl)) (pgs_cons (pg_name (i := 2) sc_first_far.nd rfl (Or.inl rfl)) (pgs_cons (pg_name (i := 3) sc_first_far.nd rfl (Or.inl rfl)) pgs_nil)))))
  (pss_cons (ps_if (pt_cmpR op_lt (pv 1) pe_int (nomark _)) (pss_one (ps_ret pe_str)) pss_nil)
  (pss_cons (ps_if (pt_cmpR op_lt (pv 2) pe_int (nomark _)) (pss_one (ps_ret pe_str)) pss_nil)
  (pss_one (ps_ret (pe_ifExp (pt_cmpR op_lt (pv 3) pe_int (nomark _)) pe_str pe_str)))))), ?_⟩
    simp only [tSeq, tIfS, tOr, tAnd, tB, tTest, tCB, tCons, tVar, tC, tNil, tNot, tNotV, tRet, tRetN, tNext, tBreak, tOrV, tAndV, tOp, tUn, rEq, rNe, tChain, rI0, rI, rU, tAsg, gName, tDrop, tAug, ipI, tIf, tCall, tCallS, tLst, tTup, tBM, tBM0, rAppend, rExtend, rPop, rReverse, tyV, rIxL, rIxT, rIxS, rIsB, rNotB, L2.start, List.map_cons, List.map_nil, List.length_cons, List.length_nil, List.replicate, List.cons_append, List.nil_append, List.append_nil, List.getElem?_cons_zero, List.getElem?_cons_succ, List.set_cons_zero, List.set_cons_succ, Nat.reduceAdd, Nat.reduceSub, Option.some.injEq, exists_eq_left', exists_eq_left, V.int.injEq, V.bl.injEq, V.str.injEq, V.ref.injEq, List.cons.injEq, and_true, true_and, and_assoc, reduceCtorEq, false_and, exists_false, or_false, false_or, exists_and_left, exists_const, scal, Int.reduceLT, Int.reduceLE, Int.reduceSub, Int.reduceAdd, Int.reduceNeg, if_true, if_false]
    refine ⟨dp, _, rfl, SqT.of hD, rfl, _, _, rfl, _, _, rfl, _, _, rfl, rfl, ?_⟩
    simp only [tSeq, tIfS, tOr, tAnd, tB, tTest, tCB, tCons, tVar, tC, tNil, tNot, tNotV, tRet, tRetN, tNext, tBreak, tOrV, tAndV, tOp, tUn, rEq, rNe, tChain, rI0, rI, rU, tAsg, gName, tDrop, tAug, ipI, tIf, tCall, tCallS, tLst, tTup, tBM, tBM0, rAppend, rExtend, rPop, rReverse, tyV, rIxL, rIxT, rIxS, rIsB, rNotB, L2.start, List.map_cons, List.map_nil, List.length_cons, List.length_nil, List.replicate, List.cons_append, List.nil_append, List.append_nil, List.getElem?_cons_zero, List.getElem?_cons_succ, List.set_cons_zero, List.set_cons_succ, Nat.reduceAdd, Nat.reduceSub, Option.some.injEq, exists_eq_left', exists_eq_left, V.int.injEq, V.bl.injEq, V.str.injEq, V.ref.injEq, List.cons.injEq, and_true, true_and, and_assoc, reduceCtorEq, false_and, exists_false, or_false, false_or, exists_and_left, exists_const, scal, Int.reduceLT, Int.reduceLE, Int.reduceSub, Int.reduceAdd, Int.reduceNeg, if_true, if_false]
    have q2 := q H (Same.refl H)
    unfold Cox.firstNeg at q2
    by_cases c0 : D 0 < 0
    · rw [if_pos c0] at q2
      exact iteT' (decide_eq_true c0) q2
    · rw [if_neg c0] at q2
      refine iteF' (fun z => c0 (of_decide_eq_true z)) ?_
      by_cases c1 : D 1 < 0
      · rw [if_pos c1] at q2
        exact iteT' (decide_eq_true c1) q2
      · rw [if_neg c1] at q2
        refine iteF' (fun z => c1 (of_decide_eq_true z)) ?_
        by_cases c2 : D 2 < 0
        · rw [if_pos c2] at q2
          exact iteT' (decide_eq_true c2) q2
        · rw [if_neg c2] at q2
          exact iteF' (fun z => c2 (of_decide_eq_true z)) q2
theorem negs_take (D : Fin 3 → Int) (j : Nat) (i : Fin 3) (h : ([0, 1, 2] : List (Fin 3))[j]? = some i) : (([0, 1, 2] : List (Fin 3)).take (j + 1)).filter (fun i => decide (D i < 0)) = (([0, 1, 2] : List (Fin 3)).take j).filter (fun i => decide (D i < 0)) ++ (if decide (D i < 0) = true then [i] else []) := by
  rw [List.take_add_one, h, List.filter_append]
  simp
  split <;> simp_all
theorem join_wS (w : W) : Txt.join "" (w.map fun i => wS [i]) = wS w := by
  have := join_signs (w.map fun i => 48 + i.1)
  rw [List.map_map] at this
  exact this
theorem sum_wS (w : W) : ((w.map fun i => wS [i]).map fun x => x.length).sum = w.length := by
  induction w with
  | nil => rfl
  | cons a w ih =>
    rw [List.map_cons, List.map_cons, List.sum_cons, ih, wS_len]
    show 1 + w.length = w.length + 1
    omega
def negs (D : Fin 3 → Int) : W := [0, 1, 2].filter fun i => decide (D i < 0)
def spFarLetters (K : PySem.W.Frag) : Sp := fun vs H Q _ => ∃ (dp : Addr) (D : Fin 3 → Int), vs = [.ref dp] ∧ H dp = some (.tup (v3i D)) ∧
  ∀ H', Same H H' → Q (.str (wS (negs D))) H'
theorem ok_far_letters (T : Txt K mg cx) : FK.Has P w K mg base CX0 1 "far_letters" ["depths"] (spFarLetters K) := by
  refine T.d_far_letters.ok sc_far_letters (fun vs H Q E h => ?_) (fun f cdv A outer s H vs Q E hr h => ?_)
  · obtain ⟨dp, D, rfl, _⟩ := h
    rfl
  · obtain ⟨dp, D, rfl, hD, q⟩ := h
    refine ⟨_, (pss_one (ps_ret (pe_join pe_str (pe_lc (own := [("letter", 1), ("depth", 2)]) (g := gTup _ 2 (gCons (gName 1) (gCons (gName 2) gNil)))  rfl sc_far_letters.nd (FK.pi_zipST (by rfl) T.n_zip (pa_cons (pe_glob (v := .str "012") rfl T.c_LETTERS ⟨_, rfl⟩) (pa_cons (pv 0) pa_nil))) (blkOk_by (own := [("letter", 1), ("depth", 2)]) (N := ["depths", "letter", "depth"]) (sc := defScope s_far_letters) (by decide +kernel)) (fun _ _ _ _ _ => (pg_tup rfl (pgs_cons (pg_name (i := 1) sc_far_letters.nd rfl (Or.inl rfl)) (pgs_cons (pg_name (i := 2) sc_far_letters.nd rfl (Or.inl rfl)) pgs_nil)))) (fun _ _ _ _ _ => (pts_one (pt_cmpR op_lt (pv 2) pe_int (nomark _)))) (fun _ _ _ _ _ => (pv 1)))))), ?_⟩
    simp only [tSeq, tIfS, tOr, tAnd, tB, tTest, tCB, tCons, tVar, tC, tNil, tNot, tNotV, tRet, tRetN, tNext, tBreak, tOrV, tAndV, tOp, tUn, rEq, rNe, tChain, rI0, rI, rU, tAsg, gName, tDrop, tAug, ipI, tIf, tCall, tCallS, tLst, tTup, tBM, tBM0, rAppend, rExtend, rPop, rReverse, tyV, rIxL, rIxT, rIxS, rIsB, rNotB, L2.start, List.map_cons, List.map_nil, List.length_cons, List.length_nil, List.replicate, List.cons_append, List.nil_append, List.append_nil, List.getElem?_cons_zero, List.getElem?_cons_succ, List.set_cons_zero, List.set_cons_succ, Nat.reduceAdd, Nat.reduceSub, Option.some.injEq, exists_eq_left', exists_eq_left, V.int.injEq, V.bl.injEq, V.str.injEq, V.ref.injEq, List.cons.injEq, and_true, true_and, and_assoc, reduceCtorEq, false_and, exists_false, or_false, false_or, exists_and_left, exists_const, scal, Int.reduceLT, Int.reduceLE, Int.reduceSub, Int.reduceAdd, Int.reduceNeg, if_true, if_false]
    refine ⟨⟨_, rfl⟩, _, rfl, "012", dp, v3i D, rfl, SqT.of hD, fun Dl hDl => ?_⟩
    refine lc_it (FK.walk_zipST (K := K) (x := "012") (b := dp) (ys := v3i D) (show 3 = _ by decide +kernel)) (fun j H' => Same H H' ∧ H' Dl = some (.lst ((((([0, 1, 2] : List (Fin 3)).take j).filter (fun i => decide (D i < 0))).map fun i => wS [i]).map V.str)))
      ⟨FK.same_new hDl, upd_same⟩ (fun j H' _ z => FK.Same.tupS z.1 (SqT.of hD)) ?_ ?_
    · rintro j x H1 H2 hj ⟨s1, e1⟩ ⟨T', ch, y, rfl, hT, rfl, hc, hy⟩
      refine ⟨T', _, rfl, SqT.of upd_same, rfl, _, _, rfl, _, _, rfl, rfl, rfl, ?_⟩
      obtain ⟨i, hi, ei, rfl⟩ : ∃ i : Fin 3, ([0, 1, 2] : List (Fin 3))[j]? = some i ∧ (⟨#[ch]⟩ : Str) = wS [i] ∧ y = .int (D i) := by
        match j, hc, hy with
        | 0, hc, hy => cases hc; cases hy; exact ⟨0, rfl, rfl, rfl⟩
        | 1, hc, hy => cases hc; cases hy; exact ⟨1, rfl, rfl, rfl⟩
        | 2, hc, hy => cases hc; cases hy; exact ⟨2, rfl, rfl, rfl⟩
        | _ + 3, _, hy => simp [v3i] at hy
      have nt := negs_take D j i hi
      have s2 : Same H1 (upd H1 T' (.tup [.str ⟨#[ch]⟩, .int (D i)])) := FK.same_new hT
      rw [ei] at s2 ⊢
      have e2 := s2 _ _ e1
      simp only [tSeq, tIfS, tOr, tAnd, tB, tTest, tCB, tCons, tVar, tC, tNil, tNot, tNotV, tRet, tRetN, tNext, tBreak, tOrV, tAndV, tOp, tUn, rEq, rNe, tChain, rI0, rI, rU, tAsg, gName, tDrop, tAug, ipI, tIf, tCall, tCallS, tLst, tTup, tBM, tBM0, rAppend, rExtend, rPop, rReverse, tyV, rIxL, rIxT, rIxS, rIsB, rNotB, L2.start, List.map_cons, List.map_nil, List.length_cons, List.length_nil, List.replicate, List.cons_append, List.nil_append, List.append_nil, List.getElem?_cons_zero, List.getElem?_cons_succ, List.set_cons_zero, List.set_cons_succ, Nat.reduceAdd, Nat.reduceSub, Option.some.injEq, exists_eq_left', exists_eq_left, V.int.injEq, V.bl.injEq, V.str.injEq, V.ref.injEq, List.cons.injEq, and_true, true_and, and_assoc, reduceCtorEq, false_and, exists_false, or_false, false_or, exists_and_left, exists_const, scal, Int.reduceLT, Int.reduceLE, Int.reduceSub, Int.reduceAdd, Int.reduceNeg, if_true, if_false, wipe]
      by_cases c : D i < 0
      · rw [if_pos (decide_eq_true c)] at nt
        refine iteT' (decide_eq_true c) ⟨_, e2, ?_, ?_, ?_⟩
        · rw [List.length_map, List.length_map]
          exact Nat.lt_of_le_of_lt (Nat.le_trans (List.length_filter_le _ _) (by rw [List.length_take]; exact Nat.min_le_right _ _)) (by show 3 < 16777216; decide)
        · exact FK.same_at hDl (s1.trans s2)
        · rw [upd_same, nt, List.map_append, List.map_append]
          rfl
      · rw [if_neg (fun z => c (of_decide_eq_true z)), List.append_nil] at nt
        refine iteF' (fun z => c (of_decide_eq_true z)) ⟨s1.trans s2, ?_⟩
        rw [nt]
        exact e2
    · rintro H1 ⟨s1, e1⟩
      refine ⟨"", rfl, Dl, rfl, (negs D).map fun i => wS [i], .inl (SqL.of e1), ?_, ?_⟩
      · rw [sum_wS]
        have h1 : (negs D).length ≤ 3 := List.length_filter_le _ _
        have h2 : ((negs D).map fun i => wS [i]).length * ("" : Str).length = 0 := Nat.mul_zero _
        omega
      · rw [join_wS]
        exact q H1 s1

/-! the class Floor -/
def fldsF (o d : Addr) : List (Str × V) := putF "scales" (.ref d) (putF "orders" (.ref o) [])
theorem kso : ¬ (("orders" : Str) = "scales") := by decide +kernel
theorem fldsF_eq (o d : Addr) : fldsF o d = ([("orders", V.ref o), ("scales", V.ref d)] : List (Str × V)) := by
  show (if ("orders" : Str) = "scales" then [(("orders" : Str), V.ref d)] else (("orders" : Str), V.ref o) :: putF "scales" (V.ref d) []) = ([("orders", V.ref o), ("scales", V.ref d)] : List (Str × V))
  rw [if_neg kso]
  all_goals rfl
theorem fldsF_o (o d : Addr) : (fldsF o d).lookup ("orders" : Str) = some (.ref o) := by
  unfold fldsF
  rw [lookup_putF, if_neg kso, lookup_putF, if_pos rfl]
theorem fldsF_s (o d : Addr) : (fldsF o d).lookup ("scales" : Str) = some (.ref d) := by
  unfold fldsF
  rw [lookup_putF, if_pos rfl]
theorem fldsF_no (o d : Addr) {m : Str} (h1 : ¬ m = "scales") (h2 : ¬ m = "orders") : (fldsF o d).lookup m = none := by
  unfold fldsF
  rw [lookup_putF, if_neg h1, lookup_putF, if_neg h2]
  all_goals rfl
def kS (s : Nat) : Key := Sum.inl ((s + 1 : Nat) : Int)
/-- a Floor stands at f -/
structure FlAt (K : PySem.W.Frag) (C : Addr) (H : Hp) (f o d : Addr) (a b c : Nat) : Prop where
  ob : ∃ dx, H f = some (.ins C dx (fldsF o d))
  sq : SqT K H o [.int (a : Int), .int (b : Int), .int (c : Int)]
  ha : okOrd a
  hb : okOrd b
  hc : okOrd c
  dc : ∃ kvs : List (Key × V), H d = some (.dK kvs) ∧ (kvs.map (·.1)).Nodup ∧ ∀ kv ∈ kvs, ∃ s p, s < 8 ∧ kv = (kS s, .ref p) ∧ ScAt K H p a b c (bitsOf s)
theorem FlAt.same {C : Addr} {H H' : Hp} {f o d : Addr} {a b c : Nat} (F : FlAt K C H f o d a b c) (s : Same H H') : FlAt K C H' f o d a b c := by
  obtain ⟨⟨dx, h1⟩, h2, ha, hb, hc, kvs, h3, h4, h5⟩ := F
  exact ⟨⟨dx, s _ _ h1⟩, FK.Same.tupS s h2, ha, hb, hc, kvs, s _ _ h3, h4, fun kv m => by
    obtain ⟨s', p, a1, a2, a3⟩ := h5 kv m
    exact ⟨s', p, a1, a2, a3.same s⟩⟩
theorem nodup_small : ∀ (n : Nat) (l : List Nat), l.Nodup → (∀ x ∈ l, x < n) → l.length ≤ n
  | 0, l, _, h => by
    cases l with
    | nil => exact Nat.le_refl _
    | cons x l => exact absurd (h x List.mem_cons_self) (Nat.not_lt_zero _)
  | n + 1, l, hn, h => by
    have h2 := nodup_small n (l.erase n) (hn.erase n) fun x hx => by
      have h3 := h x (List.mem_of_mem_erase hx)
      have h4 : x ≠ n := fun z => by
        rw [z] at hx
        exact (List.Nodup.not_mem_erase hn) hx
      omega
    have := List.length_erase (a := n) (l := l)
    split at this
    · omega
    · omega
theorem kvs_small {H : Hp} {a b c : Nat} {kvs : List (Key × V)} (hn : (kvs.map (·.1)).Nodup) (h : ∀ kv ∈ kvs, ∃ s p, s < 8 ∧ kv = (kS s, .ref p) ∧ ScAt K H p a b c (bitsOf s)) : kvs.length ≤ 8 := by
  have go : ∀ kvs : List (Key × V), (∀ kv ∈ kvs, ∃ s p, s < 8 ∧ kv = (kS s, .ref p) ∧ ScAt K H p a b c (bitsOf s)) → ∃ l : List Nat, (∀ x ∈ l, x < 8) ∧ kvs.map (·.1) = l.map kS := by
    intro kvs
    induction kvs with
    | nil => exact fun _ => ⟨[], (fun _ h => nomatch h), rfl⟩
    | cons kv kvs ih =>
      intro h
      obtain ⟨l, l1, l2⟩ := ih fun x hx => h x (List.mem_cons_of_mem _ hx)
      obtain ⟨s, p, h1, h2, _⟩ := h kv List.mem_cons_self
      refine ⟨s :: l, fun x hx => ?_, by rw [List.map_cons, List.map_cons, l2, h2]⟩
      rcases List.mem_cons.mp hx with rfl | hx
      · exact h1
      · exact l1 x hx
  obtain ⟨l, l1, l2⟩ := go kvs h
  have e : kvs.length = l.length := by rw [← List.length_map (f := (·.1)) (as := kvs), l2, List.length_map]
  rw [e]
  rw [l2] at hn
  refine nodup_small 8 l ?_ l1
  unfold List.Nodup at hn ⊢
  exact (List.pairwise_map.mp hn).imp fun h z => h (by rw [z])
theorem ScAt.upd {H : Hp} {p d : Addr} {a b c bits : Nat} {kvs : List (Key × V)} {u : HO} (h : ScAt K H p a b c bits) (hd : H d = some (.dK kvs)) : ScAt K (upd H d u) p a b c bits := by
  obtain ⟨bt, h1, h2⟩ := h
  exact ⟨bt, by rw [upd_ne (fun z => by rw [z, hd] at h1; cases h1)]; exact h1, by rw [upd_ne (fun z => by rw [z, hd] at h2; cases h2)]; exact h2⟩
theorem SqT.upd {H : Hp} {o d : Addr} {xs : List V} {kvs : List (Key × V)} {u : HO} (h : SqT K H o xs) (hd : H d = some (.dK kvs)) : SqT K (upd H d u) o xs := by
  rcases h with (h | ⟨ob, h⟩) | h
  · exact .inl (.inl (by rw [upd_ne (fun z => by rw [z, hd] at h; cases h)]; exact h))
  · exact .inl (.inr ⟨ob, by rw [upd_ne (fun z => by rw [z, hd] at h; cases h)]; exact h⟩)
  · exact .inr h
theorem valV_mem {κ : Type} [DecidableEq κ] {kvs : List (κ × V)} {k : κ} {v : V} (h : valV kvs k = some v) : (k, v) ∈ kvs := by
  unfold valV at h
  cases e : kvs.find? (fun kv => decide (kv.1 = k)) with
  | none => rw [e] at h; cases h
  | some kv =>
    rw [e] at h
    have h1 := List.mem_of_find?_eq_some e
    have h2 : kv.1 = k := of_decide_eq_true (p := kv.1 = k) (List.find?_some (p := fun kv : κ × V => decide (kv.1 = k)) e)
    obtain ⟨k', v'⟩ := kv
    cases h
    cases h2
    exact h1
def spFloorInit (C : Addr) : Sp := fun vs H Q _ => ∃ (f o dx : Addr), vs = [.ref f, .ref o] ∧ H f = some (.ins C dx []) ∧
  ∀ d H', H d = none → H' f = some (.ins C dx (fldsF o d)) → H' d = some (.dK []) → (∀ b u, H b = some u → b ≠ f → H' b = some u) → Q .non H'
theorem ok_Floor_init (T : Txt K mg cx) : FK.IHas P w K mg base CX0 1 cx.Floor ["self", "orders"] (spFloorInit cx.Floor) := by
  refine T.d_Floor_init.ok sc_Floor_init (fun vs H Q E h => ?_) (fun f cdv A outer s H vs Q E hr h => ?_)
  · obtain ⟨f, o, dx, rfl, _⟩ := h
    rfl
  · obtain ⟨f, o, dx, rfl, hf, q⟩ := h
    refine ⟨_, (pss_cons (ps_fld (pv 0) (pv 1) rfl)
  (pss_one (ps_fld (pv 0) pe_dnewK rfl))), ?_⟩
    simp only [tSeq, tIfS, tOr, tAnd, tB, tTest, tCB, tCons, tVar, tC, tNil, tNot, tNotV, tRet, tRetN, tNext, tBreak, tOrV, tAndV, tOp, tUn, rEq, rNe, tChain, rI0, rI, rU, tAsg, gName, tDrop, tAug, ipI, tIf, tCall, tCallS, tLst, tTup, tBM, tBM0, rAppend, rExtend, rPop, rReverse, tyV, rIxL, rIxT, rIxS, rIsB, rNotB, L2.start, List.map_cons, List.map_nil, List.length_cons, List.length_nil, List.replicate, List.cons_append, List.nil_append, List.append_nil, List.getElem?_cons_zero, List.getElem?_cons_succ, List.set_cons_zero, List.set_cons_succ, Nat.reduceAdd, Nat.reduceSub, Option.some.injEq, exists_eq_left', exists_eq_left, V.int.injEq, V.bl.injEq, V.str.injEq, V.ref.injEq, List.cons.injEq, and_true, true_and, and_assoc, reduceCtorEq, false_and, exists_false, or_false, false_or, exists_and_left, exists_const, scal, Int.reduceLT, Int.reduceLE, Int.reduceSub, Int.reduceAdd, Int.reduceNeg, if_true, if_false]
    refine ⟨_, rfl, _, rfl, f, cx.Floor, dx, [], rfl, hf, T.cl_Floor, T.nF_Floor_orders, (by show 0 < 1000; decide), fun d hd => ?_⟩
    have nfd : f ≠ d := fun z => by rw [← z, upd_same] at hd; cases hd
    have hd0 : H d = none := by rw [upd_ne (fun z => nfd z.symm)] at hd; exact hd
    refine ⟨_, rfl, f, cx.Floor, dx, _, rfl, by rw [upd_ne nfd]; exact upd_same, T.cl_Floor, T.nF_Floor_scales, (by show 1 < 1000; decide), ?_⟩
    refine q d _ hd0 upd_same (by rw [upd_ne nfd.symm, upd_same]) fun b u e hb => ?_
    rw [upd_ne hb, upd_ne (fun z => by rw [z, hd0] at e; cases e), upd_ne hb]
    exact e
def spScale (K : PySem.W.Frag) (C : Addr) : Sp := fun vs H Q _ => ∃ (f o d : Addr) (a b c n : Nat), vs = [.ref f, .int (n : Int)] ∧ FlAt K C H f o d a b c ∧ n < 1024 ∧
  ∀ p H', FlAt K C H' f o d a b c → FK.But d H H' → ScAt K H' p a b c (bitsOf (n / 128)) → Q (.ref p) H'
theorem ok_Floor_scale (T : Txt K mg cx) : FK.MHas P w K mg base CX0 4 cx.Floor "scale" ["self", "steps"] (spScale K cx.Floor) := by
  have H_scale_for := ok_scale_for (P := P) (w := w) (base := base) T
  refine T.d_Floor_scale.ok sc_Floor_scale (fun vs H Q E h => ?_) (fun f cdv A outer s H vs Q E hr h => ?_)
  · obtain ⟨f, o, d, a, b, c, n, rfl, _⟩ := h
    rfl
  · obtain ⟨f, o, d, a, b, c, n, rfl, F, hn, q⟩ := h
    obtain ⟨⟨dx, h1⟩, h2, ha, hb, hc, kvs, h3, h4, h5⟩ := id F
    refine ⟨_, (pss_cons (ps_set (i := 2) sc_Floor_scale.nd rfl (Or.inl rfl) (by exact (pe_op op_add (pe_op op_fdivW (pv 1) (pe_glob (v := .int 128) rfl T.c_SIZE ⟨_, rfl⟩)) pe_int)))
  (pss_cons (ps_if (pt_cmp (pc_dnotin (hu_of hr) (pv 2) (pe_fld (pv 0) rfl))) (pss_one (ps_dput (hu_of hr) (pe_fld (pv 0) rfl) (pv 2) (FK.pe_h (E := E0) H_scale_for (hr.mono (by decide)) pass0 (pa_cons (pe_fld (pv 0) rfl) (pa_cons (pe_op op_mulW (pv 2) (pe_glob (v := .int 128) rfl T.c_SIZE ⟨_, rfl⟩)) pa_nil))) rfl)) pss_nil)
  (pss_one (ps_ret (pe_dget (hu_of hr) (pe_fld (pv 0) rfl) (pv 2) (fun _ _ => rfl)))))), ?_⟩
    simp only [tSeq, tIfS, tOr, tAnd, tB, tTest, tCB, tCons, tVar, tC, tNil, tNot, tNotV, tRet, tRetN, tNext, tBreak, tOrV, tAndV, tOp, tUn, rEq, rNe, tChain, rI0, rI, rU, tAsg, gName, tDrop, tAug, ipI, tIf, tCall, tCallS, tLst, tTup, tBM, tBM0, rAppend, rExtend, rPop, rReverse, tyV, rIxL, rIxT, rIxS, rIsB, rNotB, L2.start, List.map_cons, List.map_nil, List.length_cons, List.length_nil, List.replicate, List.cons_append, List.nil_append, List.append_nil, List.getElem?_cons_zero, List.getElem?_cons_succ, List.set_cons_zero, List.set_cons_succ, Nat.reduceAdd, Nat.reduceSub, Option.some.injEq, exists_eq_left', exists_eq_left, V.int.injEq, V.bl.injEq, V.str.injEq, V.ref.injEq, List.cons.injEq, and_true, true_and, and_assoc, reduceCtorEq, false_and, exists_false, or_false, false_or, exists_and_left, exists_const, scal, Int.reduceLT, Int.reduceLE, Int.reduceSub, Int.reduceAdd, Int.reduceNeg, if_true, if_false]
    have en : ((n : Int) / 128 + 1) = ((n / 128 + 1 : Nat) : Int) := by omega
    have hs : n / 128 < 8 := by omega
    rw [en]
    refine ⟨⟨by decide, by decide +kernel⟩, _, rfl, _, rfl, f, cx.Floor, dx, _, _, rfl, h1, T.cl_Floor, T.nF_Floor_scales, fldsF_s _ _, d, _, rfl, DGet.k (k := kS (n / 128)) h3, _, rfl, ?_⟩
    cases e : valV kvs (kS (n / 128)) with
    | none =>
      refine iteT ?_
      simp only [tSeq, tIfS, tOr, tAnd, tB, tTest, tCB, tCons, tVar, tC, tNil, tNot, tNotV, tRet, tRetN, tNext, tBreak, tOrV, tAndV, tOp, tUn, rEq, rNe, tChain, rI0, rI, rU, tAsg, gName, tDrop, tAug, ipI, tIf, tCall, tCallS, tLst, tTup, tBM, tBM0, rAppend, rExtend, rPop, rReverse, tyV, rIxL, rIxT, rIxS, rIsB, rNotB, L2.start, List.map_cons, List.map_nil, List.length_cons, List.length_nil, List.replicate, List.cons_append, List.nil_append, List.append_nil, List.getElem?_cons_zero, List.getElem?_cons_succ, List.set_cons_zero, List.set_cons_succ, Nat.reduceAdd, Nat.reduceSub, Option.some.injEq, exists_eq_left', exists_eq_left, V.int.injEq, V.bl.injEq, V.str.injEq, V.ref.injEq, List.cons.injEq, and_true, true_and, and_assoc, reduceCtorEq, false_and, exists_false, or_false, false_or, exists_and_left, exists_const, scal, Int.reduceLT, Int.reduceLE, Int.reduceSub, Int.reduceAdd, Int.reduceNeg, if_true, if_false, sDPut]
      refine ⟨_, rfl, f, cx.Floor, dx, _, _, rfl, h1, T.cl_Floor, T.nF_Floor_orders, fldsF_o _ _, wide_mul (a := 30) (b := 30) (by omega) (by decide) (by decide) (by decide) (by decide), o, a, b, c, n / 128, ?_, h2, ha, hb, hc, hs, fun p H1 s1 hp hsc => ?_⟩
      · rw [show ((n / 128 + 1 : Nat) : Int) * 128 = ((128 * (n / 128 + 1) : Nat) : Int) by omega]
      · have k3 := s1 _ _ h3
        have nfd : f ≠ d := fun z => by rw [z, h3] at h1; cases h1
        have hl := kvs_small h4 h5
        refine ⟨_, rfl, f, cx.Floor, dx, _, _, rfl, s1 _ _ h1, T.cl_Floor, T.nF_Floor_scales, fldsF_s _ _, d, rfl, _, DPut.k (k := kS (n / 128)) k3 (Nat.lt_of_le_of_lt hl (by decide)), ?_⟩
        have hg := DGet.k (k := kS (n / 128)) (upd_same (H := H1) (a := d) (o := HO.dK (putK kvs (kS (n / 128)) (.ref p))))
        rw [valV_put, if_pos rfl] at hg
        refine ⟨_, rfl, f, cx.Floor, dx, _, _, rfl, by rw [upd_ne nfd]; exact s1 _ _ h1, T.cl_Floor, T.nF_Floor_scales, fldsF_s _ _, _, rfl, d, _, rfl, hg, q p _ ?_ (fun x u hx hu => by rw [upd_ne hx]; exact s1 _ _ hu) (hsc.upd k3)⟩
        refine ⟨⟨dx, by rw [upd_ne nfd]; exact s1 _ _ h1⟩, SqT.upd (FK.Same.tupS s1 h2) k3, ha, hb, hc, _, upd_same, nd_putK _ h4 e, fun kv hm => ?_⟩
        rw [putK_new _ e] at hm
        rcases List.mem_append.mp hm with hm | hm
        · obtain ⟨s', p', a1, a2, a3⟩ := h5 kv hm
          exact ⟨s', p', a1, a2, (a3.same s1).upd k3⟩
        · exact ⟨n / 128, p, hs, List.mem_singleton.mp hm, hsc.upd k3⟩
    | some v =>
      refine iteF ?_
      have hm : (kS (n / 128), v) ∈ kvs := valV_mem e
      obtain ⟨s', p, hs', hp, hsc⟩ := h5 _ hm
      have e1 : s' = n / 128 := by
        have := congrArg Prod.fst hp
        simp only [kS, Sum.inl.injEq] at this
        omega
      have e2 : v = .ref p := congrArg Prod.snd hp
      subst e1 e2
      have hg := DGet.k (k := kS (n / 128)) h3
      rw [e] at hg
      exact ⟨_, rfl, f, cx.Floor, dx, _, _, rfl, h1, T.cl_Floor, T.nF_Floor_scales, fldsF_s _ _, _, rfl, d, _, rfl, hg, q p H F .refl hsc⟩

/-- the sizes that are used fit -/
theorem fits_at {a b c s : Nat} (ha : okOrd a) (hb : okOrd b) (hc : okOrd c) (hs : s < 8) : Cox.Fits (om a b c) (bendT a b c (bitsOf s)) (TT s) (128 * (s + 1)) := by
  obtain ⟨h1, h2, h3⟩ := size_ok ⟨s, hs⟩
  exact fits h1 h2 h3 ha hb hc
/-- the program's normal word -/
def nfw (a b c : Nat) (w : W) : W := greedy (bendT a b c (bitsOf (2 * w.length / 128))) (TT (2 * w.length / 128)) w.length (Cox.depI (bendT a b c (bitsOf (2 * w.length / 128))) (TT (2 * w.length / 128)) w)
theorem nfw_ok {a b c : Nat} (ha : okOrd a) (hb : okOrd b) (hc : okOrd c) {w : W} (hw : 2 * w.length < 1024) :
    Eqv (om a b c) w (nfw a b c w) ∧ Red (om a b c) (nfw a b c w) ∧ (nfw a b c w).length = ln (om a b c) w ∧ ∀ v, Red (om a b c) v → Eqv (om a b c) w v → lx (nfw a b c w) v := by
  have F := fits_at (s := 2 * w.length / 128) ha hb hc (by omega)
  have h := greedy_ok F w.length w (by omega) (ln_le (.refl w))
  refine ⟨h.1, ?_, h.2.1, h.2.2⟩
  show ln (om a b c) (nfw a b c w) = (nfw a b c w).length
  exact (ln_eqv h.1).symm.trans h.2.1.symm
/-- the program's ends -/
def endw (a b c : Nat) (w : W) : W := negs (Cox.depI (bendT a b c (bitsOf (w.length / 128))) (TT (w.length / 128)) w.reverse)
theorem endw_ok {a b c : Nat} (ha : okOrd a) (hb : okOrd b) (hc : okOrd c) {w : W} (hw : w.length < 1024) (s : Fin 3) : s ∈ endw a b c w ↔ ln (om a b c) w = ln (om a b c) (w ++ [s]) + 1 := by
  have F := fits_at (s := w.length / 128) ha hb hc (by omega)
  rw [← ends_neg F (w := w) (by omega) s]
  unfold endw negs
  rw [List.mem_filter]
  refine ⟨fun h => of_decide_eq_true h.2, fun h => ⟨?_, decide_eq_true h⟩⟩
  have all3 : ∀ s : Fin 3, s ∈ ([0, 1, 2] : List (Fin 3)) := by decide
  exact all3 s
theorem firstNeg_neg {D : Fin 3 → Int} {i : Fin 3} (h : firstNeg D = some i) : D i < 0 := by
  unfold firstNeg at h
  split at h
  · cases h; assumption
  · split at h
    · cases h; assumption
    · split at h
      · cases h; assumption
      · cases h
theorem greedy_none {B : Fin 3 → Fin 3 → Int} {t : Int} {m : Nat} {D : Fin 3 → Int} (h : firstNeg D = none) : greedy B t m D = [] := by
  cases m with
  | zero => rfl
  | succ m =>
    unfold greedy
    rw [h]
theorem greedy_some {B : Fin 3 → Fin 3 → Int} {t : Int} {m : Nat} {D : Fin 3 → Int} {i : Fin 3} (h : firstNeg D = some i) : greedy B t (m + 1) D = i :: greedy B t m (Cox.stepI B t i D) := by
  show (match firstNeg D with | none => [] | some i => i :: greedy B t m (Cox.stepI B t i D)) = _
  rw [h]
theorem wS_ne (i : Fin 3) : (!decide (wS [i] = "")) = true := by
  revert i
  decide +kernel
def spNorm (K : PySem.W.Frag) (C : Addr) : Sp := fun vs H Q _ => ∃ (f o d : Addr) (a b c : Nat) (w : W), vs = [.ref f, .str (wS w)] ∧ FlAt K C H f o d a b c ∧ 2 * w.length < 1024 ∧
  ∀ H', FlAt K C H' f o d a b c → FK.But d H H' → Q (.str (wS (nfw a b c w))) H'
theorem ok_Floor_normal (T : Txt K mg cx) : FK.MHas P w K mg base CX0 5 cx.Floor "normal" ["self", "word"] (spNorm K cx.Floor) := by
  have H_Floor_scale := ok_Floor_scale (P := P) (w := w) (base := base) T
  have H_depths_of := ok_depths_of (P := P) (w := w) (base := base) T
  have H_depths_behind := ok_depths_behind (P := P) (w := w) (base := base) T
  have H_first_far := ok_first_far (P := P) (w := w) (base := base) T
  refine T.d_Floor_normal.ok sc_Floor_normal (fun vs H Q E h => ?_) (fun f cdv A outer s H vs Q E hr h => ?_)
  · obtain ⟨f, o, d, a, b, c, n, rfl, _⟩ := h
    rfl
  · obtain ⟨f, o, d, a, b, c, w, rfl, F, hw, q⟩ := h
    obtain ⟨dx, h1⟩ := F.ob
    refine ⟨_, (pss_cons (ps_set (i := 2) sc_Floor_normal.nd rfl (Or.inl rfl) (by exact (FK.pe_m (E := E0) (pv 0) T.cl_Floor H_Floor_scale (hr.mono (by decide)) pass0 (pa_cons (pe_op op_mulW pe_int (pe_callB call_len_str (by rfl) T.n_len PySem.boot_len (pa_cons (pv 1) pa_nil))) pa_nil))))
  (pss_cons (ps_set (i := 3) sc_Floor_normal.nd rfl (Or.inl rfl) (by exact (FK.pe_h (E := E0) H_depths_of (hr.mono (by decide)) pass0 (pa_cons (pv 2) (pa_cons (pv 1) pa_nil)))))
  (pss_cons (ps_set (i := 4) sc_Floor_normal.nd rfl (Or.inl rfl) (by exact (pe_lst pa_nil)))
  (pss_cons (ps_set (i := 5) sc_Floor_normal.nd rfl (Or.inl rfl) (by exact (FK.pe_h (E := E0) H_first_far (hr.mono (by decide)) pass0 (pa_cons (pv 3) pa_nil))))
  (pss_cons (ps_while PassesOwn.never (pt_cmpR op_ne (pv 5) pe_str (nomark _)) (pss_cons (ps_expr (pe_bm PySem.F.plainAttrs_list PySem.F.slot_list_append PySem.F.type_list_append mt_append (pv 4) (pa_cons (pv 5) pa_nil)))
  (pss_cons (ps_set (i := 3) sc_Floor_normal.nd rfl (Or.inl rfl) (by exact (FK.pe_h (E := E0) H_depths_behind (hr.mono (by decide)) pass0 (pa_cons (pv 2) (pa_cons (pv 3) (pa_cons (pv 5) pa_nil))))))
  (pss_one (ps_set (i := 5) sc_Floor_normal.nd rfl (Or.inl rfl) (by exact (FK.pe_h (E := E0) H_first_far (hr.mono (by decide)) pass0 (pa_cons (pv 3) pa_nil))))))))
  (pss_one (ps_ret (pe_join pe_str (pv 4))))))))), ?_⟩
    simp only [tSeq, tIfS, tOr, tAnd, tB, tTest, tCB, tCons, tVar, tC, tNil, tNot, tNotV, tRet, tRetN, tNext, tBreak, tOrV, tAndV, tOp, tUn, rEq, rNe, tChain, rI0, rI, rU, tAsg, gName, tDrop, tAug, ipI, tIf, tCall, tCallS, tLst, tTup, tBM, tBM0, rAppend, rExtend, rPop, rReverse, tyV, rIxL, rIxT, rIxS, rIsB, rNotB, L2.start, List.map_cons, List.map_nil, List.length_cons, List.length_nil, List.replicate, List.cons_append, List.nil_append, List.append_nil, List.getElem?_cons_zero, List.getElem?_cons_succ, List.set_cons_zero, List.set_cons_succ, Nat.reduceAdd, Nat.reduceSub, Option.some.injEq, exists_eq_left', exists_eq_left, V.int.injEq, V.bl.injEq, V.str.injEq, V.ref.injEq, List.cons.injEq, and_true, true_and, and_assoc, reduceCtorEq, false_and, exists_false, or_false, false_or, exists_and_left, exists_const, scal, Int.reduceLT, Int.reduceLE, Int.reduceSub, Int.reduceAdd, Int.reduceNeg, if_true, if_false, tMeth]
    have ez : (wS w).length = w.length := wS_len w
    have zl : ∀ n : Nat, n ≤ 2000 → n ≤ sizeLine := fun n h => Nat.le_trans h (by decide)
    refine ⟨dx, _, h1, fldsF_no _ _ (by decide +kernel) (by decide +kernel), zl _ (by omega), wide_mul (a := 2) (b := 30) (by decide) (by omega) (by decide) (by decide) (by decide), f, o, d, a, b, c, 2 * w.length, by rw [ez]; rfl, F, hw, fun sc H1 F1 b1 hsc => ?_⟩
    obtain ⟨S, hS⟩ : ∃ S, S = 2 * w.length / 128 := ⟨_, rfl⟩
    rw [← hS] at hsc
    have hS8 : S < 8 := by omega
    have Ft := fits_at (s := S) F.ha F.hb F.hc hS8
    have hK : 2 * w.length ≤ 128 * (S + 1) := by omega
    refine ⟨sc, a, b, c, S, w, rfl, hsc, hS8, F.ha, F.hb, F.hc, by omega, fun p0 H2 s2 hp0 e2 => ⟨zl _ (by omega), fun L hL => ?_⟩⟩
    have hL1 : H1 L = none := back s2 hL
    refine ⟨p0, _, rfl, by rw [upd_ne (fun z => by rw [z, hL] at e2; cases e2)]; exact e2, fun H3 s3 => ?_⟩
    have s13 : Same H1 H3 := (s2.trans (FK.same_new hL)).trans s3
    have enf : nfw a b c w = greedy (bendT a b c (bitsOf S)) (TT S) w.length (Cox.depI (bendT a b c (bitsOf S)) (TT S) w) := by rw [hS]; rfl
    refine rd_while (fun m σ H' => ∃ (u acc : W) (p : Addr), σ = [some (.ref f), some (.str (wS w)), some (.ref sc), some (.ref p), some (.ref L), some (.str (match firstNeg (Cox.depI (bendT a b c (bitsOf S)) (TT S) u) with | none => "" | some i => wS [i]))] ∧
        Same H1 H' ∧ H' L = some (.lst ((acc.map fun i => wS [i]).map V.str)) ∧ H' p = some (.tup (v3i (Cox.depI (bendT a b c (bitsOf S)) (TT S) u))) ∧ ln (om a b c) u ≤ m ∧ u.length + m ≤ 128 * (S + 1) ∧ u.length + m ≤ 2000 ∧ acc.length + m = w.length ∧
        nfw a b c w = acc ++ greedy (bendT a b c (bitsOf S)) (TT S) m (Cox.depI (bendT a b c (bitsOf S)) (TT S) u)) w.length
      ⟨w, [], p0, rfl, s13, s3 _ _ upd_same, s3 _ _ (by rw [upd_ne (fun z => by rw [z, hL] at e2; cases e2)]; exact e2), ln_self w, by omega, by omega, by simp, enf⟩ ?_ (fun σ H Q Q' hQ h => by
        simp only [tSeq, tIfS, tOr, tAnd, tB, tTest, tCB, tCons, tVar, tC, tNil, tNot, tNotV, tRet, tRetN, tNext, tBreak, tOrV, tAndV, tOp, tUn, rEq, rNe, tChain, rI0, rI, rU, tAsg, gName, tDrop, tAug, ipI, tIf, tCall, tCallS, tLst, tTup, tBM, tBM0, rAppend, rExtend, rPop, rReverse, tyV, rIxL, rIxT, rIxS, rIsB, rNotB, L2.start, List.map_cons, List.map_nil, List.length_cons, List.length_nil, List.replicate, List.cons_append, List.nil_append, List.append_nil, List.getElem?_cons_zero, List.getElem?_cons_succ, List.set_cons_zero, List.set_cons_succ, Nat.reduceAdd, Nat.reduceSub, Option.some.injEq, exists_eq_left', exists_eq_left, V.int.injEq, V.bl.injEq, V.str.injEq, V.ref.injEq, List.cons.injEq, and_true, true_and, and_assoc, reduceCtorEq, false_and, exists_false, or_false, false_or, exists_and_left, exists_const, scal, Int.reduceLT, Int.reduceLE, Int.reduceSub, Int.reduceAdd, Int.reduceNeg, if_true, if_false] at h ⊢
        obtain ⟨v, a1, a2, a3⟩ := h
        exact ⟨v, a1, a2, hQ _ _ a3⟩)
    rintro m σ H4 ⟨u, acc, p, rfl, s4, eL, ep, n1, n2, n3, n4, en⟩
    simp only [tSeq, tIfS, tOr, tAnd, tB, tTest, tCB, tCons, tVar, tC, tNil, tNot, tNotV, tRet, tRetN, tNext, tBreak, tOrV, tAndV, tOp, tUn, rEq, rNe, tChain, rI0, rI, rU, tAsg, gName, tDrop, tAug, ipI, tIf, tCall, tCallS, tLst, tTup, tBM, tBM0, rAppend, rExtend, rPop, rReverse, tyV, rIxL, rIxT, rIxS, rIsB, rNotB, L2.start, List.map_cons, List.map_nil, List.length_cons, List.length_nil, List.replicate, List.cons_append, List.nil_append, List.append_nil, List.getElem?_cons_zero, List.getElem?_cons_succ, List.set_cons_zero, List.set_cons_succ, Nat.reduceAdd, Nat.reduceSub, Option.some.injEq, exists_eq_left', exists_eq_left, V.int.injEq, V.bl.injEq, V.str.injEq, V.ref.injEq, List.cons.injEq, and_true, true_and, and_assoc, reduceCtorEq, false_and, exists_false, or_false, false_or, exists_and_left, exists_const, scal, Int.reduceLT, Int.reduceLE, Int.reduceSub, Int.reduceAdd, Int.reduceNeg, if_true, if_false]
    have n5 : u.length ≤ 128 * (S + 1) := by omega
    cases eF : firstNeg (Cox.depI (bendT a b c (bitsOf S)) (TT S) u) with
    | none =>
      refine iteF' (by decide +kernel) ?_
      rw [greedy_none eF, List.append_nil] at en
      refine ⟨⟨_, rfl⟩, _, rfl, "", rfl, L, rfl, acc.map fun i => wS [i], .inl (SqL.of eL), ?_, ?_⟩
      · rw [sum_wS]
        have h2 : (acc.map fun i => wS [i]).length * ("" : Str).length = 0 := Nat.mul_zero _
        omega
      · rw [join_wS, ← en]
        exact q H4 (F1.same s4) (b1.trans (.of s4))
    | some i =>
      refine iteT' (wS_ne i) ?_
      have hneg := firstNeg_neg eF
      have hln := (neg_iff Ft n5 i).mp hneg
      obtain ⟨m', rfl⟩ : ∃ m', m = m' + 1 := ⟨m - 1, by omega⟩
      have eg : greedy (bendT a b c (bitsOf S)) (TT S) (m' + 1) (Cox.depI (bendT a b c (bitsOf S)) (TT S) u) = i :: greedy (bendT a b c (bitsOf S)) (TT S) m' (Cox.depI (bendT a b c (bitsOf S)) (TT S) (i :: u)) := greedy_some eF
      rw [eg] at en
      simp only [tSeq, tIfS, tOr, tAnd, tB, tTest, tCB, tCons, tVar, tC, tNil, tNot, tNotV, tRet, tRetN, tNext, tBreak, tOrV, tAndV, tOp, tUn, rEq, rNe, tChain, rI0, rI, rU, tAsg, gName, tDrop, tAug, ipI, tIf, tCall, tCallS, tLst, tTup, tBM, tBM0, rAppend, rExtend, rPop, rReverse, tyV, rIxL, rIxT, rIxS, rIsB, rNotB, L2.start, List.map_cons, List.map_nil, List.length_cons, List.length_nil, List.replicate, List.cons_append, List.nil_append, List.append_nil, List.getElem?_cons_zero, List.getElem?_cons_succ, List.set_cons_zero, List.set_cons_succ, Nat.reduceAdd, Nat.reduceSub, Option.some.injEq, exists_eq_left', exists_eq_left, V.int.injEq, V.bl.injEq, V.str.injEq, V.ref.injEq, List.cons.injEq, and_true, true_and, and_assoc, reduceCtorEq, false_and, exists_false, or_false, false_or, exists_and_left, exists_const, scal, Int.reduceLT, Int.reduceLE, Int.reduceSub, Int.reduceAdd, Int.reduceNeg, if_true, if_false]
      refine ⟨.inl ⟨_, SqL.of eL⟩, _, eL, ?_, ?_⟩
      · rw [List.length_map, List.length_map]
        exact Nat.lt_of_le_of_lt (show acc.length ≤ 2000 by omega) (by show 2000 < 16777216; decide)
      have s5 : Same H1 (upd H4 L (.lst (((acc.map fun i => wS [i]).map V.str) ++ [.str (wS [i])]))) := FK.same_at hL1 s4
      have npL : p ≠ L := fun z => by rw [z, eL] at ep; cases ep
      refine ⟨sc, p, a, b, c, S, _, i, rfl, hsc.same s5, hS8, F.ha, F.hb, F.hc, by rw [upd_ne npL]; exact ep, fun j => depI_small hS8 F.ha F.hb F.hc (by omega) j, fun p2 H5 s6 hp2 e5 => ?_⟩
      refine ⟨p2, _, rfl, e5, fun H6 s7 => ?_⟩
      refine ⟨m', by omega, i :: u, acc ++ [i], p2, rfl, rfl, (s5.trans s6).trans s7, ?_, s7 _ _ e5, by omega, by rw [List.length_cons]; omega, by rw [List.length_cons]; omega, by rw [List.length_append, List.length_singleton]; omega, ?_⟩
      · rw [List.map_append, List.map_append]
        exact s7 _ _ (s6 _ _ upd_same)
      · rw [en, List.append_assoc]
        rfl
def spEndsF (K : PySem.W.Frag) (C : Addr) : Sp := fun vs H Q _ => ∃ (f o d : Addr) (a b c : Nat) (w : W), vs = [.ref f, .str (wS w)] ∧ FlAt K C H f o d a b c ∧ w.length < 1024 ∧
  ∀ H', FlAt K C H' f o d a b c → FK.But d H H' → Q (.str (wS (endw a b c w))) H'
theorem ok_Floor_ends (T : Txt K mg cx) : FK.MHas P w K mg base CX0 5 cx.Floor "ends" ["self", "word"] (spEndsF K cx.Floor) := by
  have H_Floor_scale := ok_Floor_scale (P := P) (w := w) (base := base) T
  have H_depths_of := ok_depths_of (P := P) (w := w) (base := base) T
  have H_far_letters := ok_far_letters (P := P) (w := w) (base := base) T
  refine T.d_Floor_ends.ok sc_Floor_ends (fun vs H Q E h => ?_) (fun f cdv A outer s H vs Q E hr h => ?_)
  · obtain ⟨f, o, d, a, b, c, n, rfl, _⟩ := h
    rfl
  · obtain ⟨f, o, d, a, b, c, w, rfl, F, hw, q⟩ := h
    obtain ⟨dx, h1⟩ := F.ob
    refine ⟨_, (pss_one (ps_ret (FK.pe_h (E := E0) H_far_letters (hr.mono (by decide)) pass0 (pa_cons (FK.pe_h (E := E0) H_depths_of (hr.mono (by decide)) pass0 (pa_cons (FK.pe_m (E := E0) (pv 0) T.cl_Floor H_Floor_scale (hr.mono (by decide)) pass0 (pa_cons (pe_callB call_len_str (by rfl) T.n_len PySem.boot_len (pa_cons (pv 1) pa_nil)) pa_nil)) (pa_cons (FK.pe_revS (pv 1)) pa_nil))) pa_nil)))), ?_⟩
    simp only [tSeq, tIfS, tOr, tAnd, tB, tTest, tCB, tCons, tVar, tC, tNil, tNot, tNotV, tRet, tRetN, tNext, tBreak, tOrV, tAndV, tOp, tUn, rEq, rNe, tChain, rI0, rI, rU, tAsg, gName, tDrop, tAug, ipI, tIf, tCall, tCallS, tLst, tTup, tBM, tBM0, rAppend, rExtend, rPop, rReverse, tyV, rIxL, rIxT, rIxS, rIsB, rNotB, L2.start, List.map_cons, List.map_nil, List.length_cons, List.length_nil, List.replicate, List.cons_append, List.nil_append, List.append_nil, List.getElem?_cons_zero, List.getElem?_cons_succ, List.set_cons_zero, List.set_cons_succ, Nat.reduceAdd, Nat.reduceSub, Option.some.injEq, exists_eq_left', exists_eq_left, V.int.injEq, V.bl.injEq, V.str.injEq, V.ref.injEq, List.cons.injEq, and_true, true_and, and_assoc, reduceCtorEq, false_and, exists_false, or_false, false_or, exists_and_left, exists_const, scal, Int.reduceLT, Int.reduceLE, Int.reduceSub, Int.reduceAdd, Int.reduceNeg, if_true, if_false, tMeth]
    have ez : (wS w).length = w.length := wS_len w
    have zl : ∀ n : Nat, n ≤ 2000 → n ≤ sizeLine := fun n h => Nat.le_trans h (by decide)
    refine ⟨dx, _, h1, fldsF_no _ _ (by decide +kernel) (by decide +kernel), zl _ (by omega), f, o, d, a, b, c, w.length, by rw [ez], F, hw, fun sc H1 F1 b1 hsc => ?_⟩
    have hS8 : w.length / 128 < 8 := by omega
    refine ⟨_, rfl, wS w, rfl, zl _ (by omega), sc, a, b, c, w.length / 128, w.reverse, by rw [wS_rev], hsc, hS8, F.ha, F.hb, F.hc, by rw [List.length_reverse]; omega, fun p0 H2 s2 hp0 e2 => ?_⟩
    exact ⟨p0, _, rfl, e2, fun H3 s3 => q H3 (F1.same (s2.trans s3)) (b1.trans (.of (s2.trans s3)))⟩
/-- the orders of a floor, in the heap -/
def spNormal (K : PySem.W.Frag) (CO CW : Addr) : Sp := fun vs H Q E => ∃ (o : Addr) (ns : List Int) (x : Str), vs = [.ref o, .str x] ∧ SqT K H o (ns.map V.int) ∧ x.length < sizeLine ∧
  (okOrders ns = false → ∀ H', Same H H' → E (.ref CO) none H') ∧ (okOrders ns = true → okWord x 60 = false → ∀ H', Same H H' → E (.ref CW) none H') ∧
  (okOrders ns = true → okWord x 60 = true → ∀ (a b c : Nat) (w : W) H', ns = [(a : Int), (b : Int), (c : Int)] → okOrd a → okOrd b → okOrd c → x = wS w → w.length ≤ 60 → Same H H' → Q (.str (wS (nfw a b c w))) H')
theorem okOrd_of {n : Int} (h : okOrder n = true) : ∃ a : Nat, n = (a : Int) ∧ okOrd a := by
  have hb := okOrder_bound h
  refine ⟨n.toNat, by omega, ?_⟩
  unfold okOrder at h
  simp only [Bool.or_eq_true, Bool.and_eq_true, decide_eq_true_eq] at h
  unfold okOrd
  omega
theorem orders_of {ns : List Int} (h : okOrders ns = true) : ∃ a b c : Nat, ns = [(a : Int), (b : Int), (c : Int)] ∧ okOrd a ∧ okOrd b ∧ okOrd c := by
  obtain ⟨m0, m1, m2, rfl⟩ := len3 h
  unfold okOrders at h
  rw [Bool.and_eq_true] at h
  have h2 := List.all_eq_true.mp h.2
  obtain ⟨a, rfl, ha⟩ := okOrd_of (h2 m0 (by simp))
  obtain ⟨b, rfl, hb⟩ := okOrd_of (h2 m1 (by simp))
  obtain ⟨c, rfl, hc⟩ := okOrd_of (h2 m2 (by simp))
  exact ⟨a, b, c, rfl, ha, hb, hc⟩
theorem word_ok {x : Str} {m : Int} (h : okWord x m = true) : ∃ w, x = wS w ∧ (w.length : Int) ≤ m := by
  unfold okWord at h
  rw [Bool.and_eq_true] at h
  obtain ⟨w, rfl⟩ := word_of (x := x) fun c hc => List.all_eq_true.mp h.2 c hc
  have := of_decide_eq_true h.1
  rw [wS_len] at this
  exact ⟨w, rfl, this⟩
theorem okWord_wS {w : W} {m : Int} (h : (w.length : Int) ≤ m) : okWord (wS w) m = true := by
  unfold okWord
  rw [wS_len, decide_eq_true h, Bool.true_and, List.all_eq_true]
  intro c hc
  rw [wS_list] at hc
  obtain ⟨i, _, rfl⟩ := List.mem_map.mp hc
  exact Cox.is_letter i
/-- what stands behind Floor(orders) -/
theorem floor_new {C : Addr} {H H4 : Hp} {f o d dx : Addr} {a b c : Nat} (hS : SqT K H o [.int (a : Int), .int (b : Int), .int (c : Int)]) (ha : okOrd a) (hb : okOrd b) (hc : okOrd c) (hf : H f = none) (hdx : H dx = none)
    (hd : upd (upd H dx (.own f)) f (.ins C dx []) d = none) (e1 : H4 f = some (.ins C dx (fldsF o d))) (e2 : H4 d = some (.dK [])) (kp : ∀ b u, upd (upd H dx (.own f)) f (.ins C dx []) b = some u → b ≠ f → H4 b = some u) :
    FlAt K C H4 f o d a b c ∧ Same H H4 ∧ H d = none := by
  have nf : ∀ b u, H b = some u → b ≠ f := fun b u e z => by rw [z, hf] at e; cases e
  have ndx : ∀ b u, H b = some u → b ≠ dx := fun b u e z => by rw [z, hdx] at e; cases e
  have s : Same H H4 := fun b u e => kp b u (by rw [upd_ne (nf b u e), upd_ne (ndx b u e)]; exact e) (nf b u e)
  refine ⟨⟨⟨dx, e1⟩, FK.Same.tupS s hS, ha, hb, hc, [], e2, List.nodup_nil, fun _ h => nomatch h⟩, s, ?_⟩
  cases e : H d with
  | none => rfl
  | some u =>
    rw [upd_ne (nf d u e), upd_ne (ndx d u e), e] at hd
    cases hd
theorem but_same {H H4 H5 : Hp} {d : Addr} (s : Same H H4) (hd : H d = none) (b : FK.But d H4 H5) : Same H H5 := fun x u e => b x u (fun z => by rw [z, hd] at e; cases e) (s x u e)
def spLength (K : PySem.W.Frag) (CO CW : Addr) : Sp := fun vs H Q E => ∃ (o : Addr) (ns : List Int) (x : Str), vs = [.ref o, .str x] ∧ SqT K H o (ns.map V.int) ∧ x.length < sizeLine ∧
  (okOrders ns = false → ∀ H', Same H H' → E (.ref CO) none H') ∧ (okOrders ns = true → okWord x 60 = false → ∀ H', Same H H' → E (.ref CW) none H') ∧
  (okOrders ns = true → okWord x 60 = true → ∀ (a b c : Nat) (w : W) H', ns = [(a : Int), (b : Int), (c : Int)] → okOrd a → okOrd b → okOrd c → x = wS w → w.length ≤ 60 → Same H H' → Q (.int ((nfw a b c w).length : Nat)) H')
theorem nfw_len {a b c : Nat} (ha : okOrd a) (hb : okOrd b) (hc : okOrd c) {w : W} (hw : w.length ≤ 60) : (nfw a b c w).length ≤ 60 := by
  have := (nfw_ok ha hb hc (w := w) (by omega)).2.2.1
  have h2 := ln_self (m := om a b c) w
  omega
def spShortest (K : PySem.W.Frag) (CO CW : Addr) : Sp := fun vs H Q E => ∃ (o : Addr) (ns : List Int) (x : Str), vs = [.ref o, .str x] ∧ SqT K H o (ns.map V.int) ∧ x.length < sizeLine ∧
  (okOrders ns = false → ∀ H', Same H H' → E (.ref CO) none H') ∧ (okOrders ns = true → okWord x 60 = false → ∀ H', Same H H' → E (.ref CW) none H') ∧
  (okOrders ns = true → okWord x 60 = true → ∀ (a b c : Nat) (w : W) H', ns = [(a : Int), (b : Int), (c : Int)] → okOrd a → okOrd b → okOrd c → x = wS w → w.length ≤ 60 → Same H H' → Q (.bl (decide ((nfw a b c w).length = w.length))) H')
def spEnds (K : PySem.W.Frag) (CO CW : Addr) : Sp := fun vs H Q E => ∃ (o : Addr) (ns : List Int) (x : Str), vs = [.ref o, .str x] ∧ SqT K H o (ns.map V.int) ∧ x.length < sizeLine ∧
  (okOrders ns = false → ∀ H', Same H H' → E (.ref CO) none H') ∧ (okOrders ns = true → okWord x 60 = false → ∀ H', Same H H' → E (.ref CW) none H') ∧
  (okOrders ns = true → okWord x 60 = true → ∀ (a b c : Nat) (w : W) H', ns = [(a : Int), (b : Int), (c : Int)] → okOrd a → okOrd b → okOrd c → x = wS w → w.length ≤ 60 → Same H H' → Q (.str (wS (endw a b c w))) H')

theorem back' {H H' : Hp} {d p : Addr} (b : FK.But d H H') (hd : Dr H' d) (h : H' p = none) : H p = none := by
  cases e : H p with
  | none => rfl
  | some u => rw [b p u (hd.ne h) e] at h; cases h
def menu10 : List V := [V.int 2, V.int 3, V.int 4, V.int 5, V.int 6, V.int 3, V.int 2, V.int 4, V.int 0, V.int 7]
theorem menu10_ok : ∀ v ∈ menu10, ∃ n : Nat, v = .int (n : Int) ∧ okOrd n := by
  intro v hv
  simp only [menu10, List.mem_cons, List.not_mem_nil, or_false] at hv
  have lit : ∀ n : Nat, (n = 0 ∨ 2 ≤ n ∧ n ≤ 12) → v = .int (n : Int) → ∃ n : Nat, v = .int (n : Int) ∧ okOrd n := fun n h e => ⟨n, e, h⟩
  rcases hv with e | e | e | e | e | e | e | e | e | e
  · exact lit 2 (by omega) e
  · exact lit 3 (by omega) e
  · exact lit 4 (by omega) e
  · exact lit 5 (by omega) e
  · exact lit 6 (by omega) e
  · exact lit 3 (by omega) e
  · exact lit 2 (by omega) e
  · exact lit 4 (by omega) e
  · exact lit 0 (by omega) e
  · exact lit 7 (by omega) e
theorem nats_of {p : Nat → Prop} : ∀ {zs : List V}, (∀ z ∈ zs, ∃ n : Nat, z = .int (n : Int) ∧ p n) → ∃ ns : List Nat, zs = ns.map (fun n => V.int (n : Nat)) ∧ ∀ n ∈ ns, p n
  | [], _ => ⟨[], rfl, fun _ h => nomatch h⟩
  | z :: zs, h => by
    obtain ⟨n, rfl, hn⟩ := h z List.mem_cons_self
    obtain ⟨ns, rfl, hns⟩ := nats_of fun z hz => h z (List.mem_cons_of_mem _ hz)
    exact ⟨n :: ns, rfl, fun m hm => by
      rcases List.mem_cons.mp hm with rfl | hm
      · exact hn
      · exact hns m hm⟩
def spLawOrders : Sp := fun vs H Q _ => ∃ d : Addr, vs = [.ref d] ∧ Dr H d ∧ ∀ (o : Addr) (a b c : Nat) H', okOrd a → okOrd b → okOrd c → H' o = some (.tup [.int (a : Int), .int (b : Int), .int (c : Int)]) → Dr H' d → FK.But d H H' → Q (.ref o) H'
theorem ok_law_orders (T : Txt K mg cx) : FK.Has P w K mg base CX0 3 "_law_orders" ["draws"] spLawOrders := by
  have H_law_next := ok_law_next (P := P) (w := w) (base := base) T
  refine T.d_law_orders.ok sc_law_orders (fun vs H Q E h => ?_) (fun f cdv A outer s H vs Q E hr h => ?_)
  · obtain ⟨d, rfl, _⟩ := h
    rfl
  · obtain ⟨d, rfl, hd, q⟩ := h
    refine ⟨_, (pss_one (ps_ret (pe_callTy call_tuple_of (by rfl) T.n_tuple (by decide +kernel) (pa_cons (pe_lc (own := [("k", 1)]) (g := gName 1) (tt := tYes) rfl sc_law_orders.nd (pi_range1 rfl T.n_range (pa_cons pe_int pa_nil)) (blkOk_by (own := [("k", 1)]) (N := ["draws", "k"]) (sc := defScope s_law_orders) (by decide +kernel)) (fun _ _ _ _ _ => (pg_name (i := 1) sc_law_orders.nd rfl (Or.inl rfl))) (fun _ _ _ _ _ => pts_nil) (fun _ _ _ _ _ => (pe_ix (r := rIxL K) ix_list (pe_lst (pa_cons pe_int (pa_cons pe_int (pa_cons pe_int (pa_cons pe_int (pa_cons pe_int (pa_cons pe_int (pa_cons pe_int (pa_cons pe_int (pa_cons pe_int (pa_cons pe_int pa_nil))))))))))) (pe_op op_mod (pe_callTy FK.call_intI (by rfl) T.n_int (by decide +kernel) (pa_cons (FK.pe_h (E := E0) H_law_next (hr.mono (by decide)) pass0 (pa_cons (pv 0) pa_nil)) pa_nil)) pe_int) (fun _ _ => rfl)))) pa_nil)))), ?_⟩
    simp only [tSeq, tIfS, tOr, tAnd, tB, tTest, tCB, tCons, tVar, tC, tNil, tNot, tNotV, tRet, tRetN, tNext, tBreak, tOrV, tAndV, tOp, tUn, rEq, rNe, tChain, rI0, rI, rU, tAsg, gName, tDrop, tAug, ipI, tIf, tCall, tCallS, tLst, tTup, tBM, tBM0, rAppend, rExtend, rPop, rReverse, tyV, rIxL, rIxT, rIxS, rIsB, rNotB, L2.start, List.map_cons, List.map_nil, List.length_cons, List.length_nil, List.replicate, List.cons_append, List.nil_append, List.append_nil, List.getElem?_cons_zero, List.getElem?_cons_succ, List.set_cons_zero, List.set_cons_succ, Nat.reduceAdd, Nat.reduceSub, Option.some.injEq, exists_eq_left', exists_eq_left, V.int.injEq, V.bl.injEq, V.str.injEq, V.ref.injEq, List.cons.injEq, and_true, true_and, and_assoc, reduceCtorEq, false_and, exists_false, or_false, false_or, exists_and_left, exists_const, scal, Int.reduceLT, Int.reduceLE, Int.reduceSub, Int.reduceAdd, Int.reduceNeg, if_true, if_false]
    refine rd_drawn (n := 3) (d := d) (fun v => ∃ n : Nat, v = .int (n : Int) ∧ okOrd n) (fun R go => by simp only [tSeq, tIfS, tOr, tAnd, tB, tTest, tCB, tCons, tVar, tC, tNil, tNot, tNotV, tRet, tRetN, tNext, tBreak, tOrV, tAndV, tOp, tUn, rEq, rNe, tChain, rI0, rI, rU, tAsg, gName, tDrop, tAug, ipI, tIf, tCall, tCallS, tLst, tTup, tBM, tBM0, rAppend, rExtend, rPop, rReverse, tyV, rIxL, rIxT, rIxS, rIsB, rNotB, L2.start, List.map_cons, List.map_nil, List.length_cons, List.length_nil, List.replicate, List.cons_append, List.nil_append, List.append_nil, List.getElem?_cons_zero, List.getElem?_cons_succ, List.set_cons_zero, List.set_cons_succ, Nat.reduceAdd, Nat.reduceSub, Option.some.injEq, exists_eq_left', exists_eq_left, V.int.injEq, V.bl.injEq, V.str.injEq, V.ref.injEq, List.cons.injEq, and_true, true_and, and_assoc, reduceCtorEq, false_and, exists_false, or_false, false_or, exists_and_left, exists_const, scal, Int.reduceLT, Int.reduceLE, Int.reduceSub, Int.reduceAdd, Int.reduceNeg, if_true, if_false, iRng1]; exact ⟨by decide, by decide, go⟩) (by decide) hd (fun _ => rfl) ?_ ?_
    · intro x' H4 R hd4 go
      simp only [tSeq, tIfS, tOr, tAnd, tB, tTest, tCB, tCons, tVar, tC, tNil, tNot, tNotV, tRet, tRetN, tNext, tBreak, tOrV, tAndV, tOp, tUn, rEq, rNe, tChain, rI0, rI, rU, tAsg, gName, tDrop, tAug, ipI, tIf, tCall, tCallS, tLst, tTup, tBM, tBM0, rAppend, rExtend, rPop, rReverse, tyV, rIxL, rIxT, rIxS, rIsB, rNotB, L2.start, List.map_cons, List.map_nil, List.length_cons, List.length_nil, List.replicate, List.cons_append, List.nil_append, List.append_nil, List.getElem?_cons_zero, List.getElem?_cons_succ, List.set_cons_zero, List.set_cons_succ, Nat.reduceAdd, Nat.reduceSub, Option.some.injEq, exists_eq_left', exists_eq_left, V.int.injEq, V.bl.injEq, V.str.injEq, V.ref.injEq, List.cons.injEq, and_true, true_and, and_assoc, reduceCtorEq, false_and, exists_false, or_false, false_or, exists_and_left, exists_const, scal, Int.reduceLT, Int.reduceLE, Int.reduceSub, Int.reduceAdd, Int.reduceNeg, if_true, if_false]
      refine ⟨by decide, fun p hp => ⟨_, rfl, d, rfl, hd4.same (FK.same_new hp), fun r H5 r0 r1 hd5 b5 => ⟨r, rfl, ?_⟩⟩⟩
      have ep : H5 p = some (.lst menu10) := b5 p _ (hd4.ne hp) upd_same
      have m0 : 0 ≤ r % 10 := Int.emod_nonneg _ (by decide)
      have m1 : r % 10 < 10 := Int.emod_lt_of_pos _ (by decide)
      obtain ⟨v, hv, hm⟩ := atI_mem (cs := menu10) m0 m1
      exact ⟨menu10, SqL.of ep, v, hv, go v H5 (menu10_ok v hm) hd5 fun b o n e => b5 b o n (FK.same_new hp b o e)⟩
    · intro D zs H4 hD hzl hz hd4 hb4 hDz
      obtain ⟨ns, rfl, hns⟩ := nats_of hz
      rw [List.length_map] at hzl
      match ns, hzl, hns, hDz with
      | [a, b, c], _, hns, hDz =>
        exact ⟨D, rfl, _, .inl ⟨SqL.of hDz, fun l hl => q l a b c _ (hns a (by simp)) (hns b (by simp)) (hns c (by simp)) upd_same (hd4.at (hd4.ne hl)) (but_at (back' hb4 hd4 hl) hb4)⟩⟩
def spLawWord : Sp := fun vs H Q _ => ∃ (d : Addr) (n : Nat), vs = [.ref d, .int (n : Int)] ∧ Dr H d ∧ n ≤ 30 ∧ ∀ (u : W) H', u.length ≤ n → Dr H' d → FK.But d H H' → Q (.str (wS u)) H'
theorem sign3 {r : Int} (h0 : 0 ≤ r) (h1 : r < 3) : ∃ (i : Fin 3) (c : Nat), (i.1 : Int) = r ∧ atI ("012" : Str).cps.toList r = some c ∧ (⟨#[c]⟩ : Str) = wS [i] := by
  have h : r = 0 ∨ r = 1 ∨ r = 2 := by omega
  rcases h with rfl | rfl | rfl
  · exact ⟨0, 48, rfl, by decide +kernel, rfl⟩
  · exact ⟨1, 49, rfl, by decide +kernel, rfl⟩
  · exact ⟨2, 50, rfl, by decide +kernel, rfl⟩
theorem for_rng {wi : TI} {g : TG} {tb : TS} {D : Ends} {σ : L2.St} {H : Hp} (PN : Nat → Hp → Prop) (hw : ∀ R : It → Hp → Prop, (∀ k H1, PN k H1 → R (Itr 0 k) H1) → wi σ H R) (go : ∀ k H1, PN k H1 → tFor (fun _ H R => R (Itr 0 k) H) g tb D σ H1) : tFor wi g tb D σ H := hw _ fun k H1 p => go k H1 p
theorem ok_law_word (T : Txt K mg cx) : FK.Has P w K mg base CX0 3 "_law_word" ["draws", "most"] spLawWord := by
  have H_law_next := ok_law_next (P := P) (w := w) (base := base) T
  refine T.d_law_word.ok sc_law_word (fun vs H Q E h => ?_) (fun f cdv A outer s H vs Q E hr h => ?_)
  · obtain ⟨d, n, rfl, _⟩ := h
    rfl
  · obtain ⟨d, n, rfl, hd, hn, q⟩ := h
    refine ⟨_, (pss_cons (ps_set (i := 2) sc_law_word.nd rfl (Or.inl rfl) (by exact pe_str))
  (pss_cons (ps_for PassesOwn.never rfl (pi_range1 rfl T.n_range (pa_cons (pe_op op_mod (pe_callTy FK.call_intI (by rfl) T.n_int (by decide +kernel) (pa_cons (FK.pe_h (E := E0) H_law_next (hr.mono (by decide)) pass0 (pa_cons (pv 0) pa_nil)) pa_nil)) (pe_op op_add (pv 1) pe_int)) pa_nil)) (pg_name (i := 3) sc_law_word.nd rfl (Or.inl rfl))
  (pss_one (ps_set (i := 2) sc_law_word.nd rfl (Or.inl rfl) (by exact (pe_op op_add_str (pv 2) (pe_ix ix_str pe_str (pe_op op_mod (pe_callTy FK.call_intI (by rfl) T.n_int (by decide +kernel) (pa_cons (FK.pe_h (E := E0) H_law_next (hr.mono (by decide)) pass0 (pa_cons (pv 0) pa_nil)) pa_nil)) pe_int) (fun _ _ => rfl)))))))
  (pss_one (ps_ret (pv 2))))), ?_⟩
    simp only [tSeq, tIfS, tOr, tAnd, tB, tTest, tCB, tCons, tVar, tC, tNil, tNot, tNotV, tRet, tRetN, tNext, tBreak, tOrV, tAndV, tOp, tUn, rEq, rNe, tChain, rI0, rI, rU, tAsg, gName, tDrop, tAug, ipI, tIf, tCall, tCallS, tLst, tTup, tBM, tBM0, rAppend, rExtend, rPop, rReverse, tyV, rIxL, rIxT, rIxS, rIsB, rNotB, L2.start, List.map_cons, List.map_nil, List.length_cons, List.length_nil, List.replicate, List.cons_append, List.nil_append, List.append_nil, List.getElem?_cons_zero, List.getElem?_cons_succ, List.set_cons_zero, List.set_cons_succ, Nat.reduceAdd, Nat.reduceSub, Option.some.injEq, exists_eq_left', exists_eq_left, V.int.injEq, V.bl.injEq, V.str.injEq, V.ref.injEq, List.cons.injEq, and_true, true_and, and_assoc, reduceCtorEq, false_and, exists_false, or_false, false_or, exists_and_left, exists_const, scal, Int.reduceLT, Int.reduceLE, Int.reduceSub, Int.reduceAdd, Int.reduceNeg, if_true, if_false]
    refine for_rng (fun k H1 => k ≤ n ∧ Dr H1 d ∧ FK.But d H H1) (fun R go => by
      simp only [tSeq, tIfS, tOr, tAnd, tB, tTest, tCB, tCons, tVar, tC, tNil, tNot, tNotV, tRet, tRetN, tNext, tBreak, tOrV, tAndV, tOp, tUn, rEq, rNe, tChain, rI0, rI, rU, tAsg, gName, tDrop, tAug, ipI, tIf, tCall, tCallS, tLst, tTup, tBM, tBM0, rAppend, rExtend, rPop, rReverse, tyV, rIxL, rIxT, rIxS, rIsB, rNotB, L2.start, List.map_cons, List.map_nil, List.length_cons, List.length_nil, List.replicate, List.cons_append, List.nil_append, List.append_nil, List.getElem?_cons_zero, List.getElem?_cons_succ, List.set_cons_zero, List.set_cons_succ, Nat.reduceAdd, Nat.reduceSub, Option.some.injEq, exists_eq_left', exists_eq_left, V.int.injEq, V.bl.injEq, V.str.injEq, V.ref.injEq, List.cons.injEq, and_true, true_and, and_assoc, reduceCtorEq, false_and, exists_false, or_false, false_or, exists_and_left, exists_const, scal, Int.reduceLT, Int.reduceLE, Int.reduceSub, Int.reduceAdd, Int.reduceNeg, if_true, if_false, iRng1]
      exact ⟨d, rfl, hd, fun r H1 r0 r1 hd1 b1 => ⟨r, rfl, by omega, by
        have m0 : 0 ≤ r % ((n : Int) + 1) := Int.emod_nonneg _ (by omega)
        have m1 : r % ((n : Int) + 1) < (n : Int) + 1 := Int.emod_lt_of_pos _ (by omega)
        exact ⟨by omega, by omega, go _ H1 ⟨by omega, hd1, b1⟩⟩⟩⟩) ?_
    rintro k H1 ⟨hk, hd1, b1⟩
    refine FK.rd_for (J := Itr 0 k) (H1 := H1) (fun R r => r) walk_range
      (fun i σ H' => ∃ (u : W) (v3 : Option V), σ = [some (.ref d), some (.int (n : Int)), some (.str (wS u)), v3] ∧ u.length = i ∧ Dr H' d ∧ FK.But d H H') ⟨[], none, rfl, rfl, hd1, b1⟩ (fun _ _ _ _ _ => trivial) ?_ ?_
    · rintro i x σ H2 H3 hi ⟨u, v3, rfl, lu, hd2, b2⟩ ⟨rfl, rfl⟩
      simp only [tSeq, tIfS, tOr, tAnd, tB, tTest, tCB, tCons, tVar, tC, tNil, tNot, tNotV, tRet, tRetN, tNext, tBreak, tOrV, tAndV, tOp, tUn, rEq, rNe, tChain, rI0, rI, rU, tAsg, gName, tDrop, tAug, ipI, tIf, tCall, tCallS, tLst, tTup, tBM, tBM0, rAppend, rExtend, rPop, rReverse, tyV, rIxL, rIxT, rIxS, rIsB, rNotB, L2.start, List.map_cons, List.map_nil, List.length_cons, List.length_nil, List.replicate, List.cons_append, List.nil_append, List.append_nil, List.getElem?_cons_zero, List.getElem?_cons_succ, List.set_cons_zero, List.set_cons_succ, Nat.reduceAdd, Nat.reduceSub, Option.some.injEq, exists_eq_left', exists_eq_left, V.int.injEq, V.bl.injEq, V.str.injEq, V.ref.injEq, List.cons.injEq, and_true, true_and, and_assoc, reduceCtorEq, false_and, exists_false, or_false, false_or, exists_and_left, exists_const, scal, Int.reduceLT, Int.reduceLE, Int.reduceSub, Int.reduceAdd, Int.reduceNeg, if_true, if_false]
      refine ⟨d, rfl, hd2, fun r H4 r0 r1 hd4 b4 => ?_⟩
      obtain ⟨j, c, _, hc, ec⟩ := sign3 (r := r % 3) (Int.emod_nonneg _ (by decide)) (Int.emod_lt_of_pos _ (by decide))
      refine ⟨r, rfl, by decide, c, hc, ?_⟩
      rw [ec, wS_app]
      exact ⟨by rw [wS_len, wS_len]; exact Nat.le_trans (show _ ≤ 2000 by simp; omega) (by decide), u ++ [j], rfl, by simp [lu], hd4, b2.trans b4⟩
    · rintro σ H2 ⟨u, v3, rfl, lu, hd2, b2⟩
      simp only [tSeq, tIfS, tOr, tAnd, tB, tTest, tCB, tCons, tVar, tC, tNil, tNot, tNotV, tRet, tRetN, tNext, tBreak, tOrV, tAndV, tOp, tUn, rEq, rNe, tChain, rI0, rI, rU, tAsg, gName, tDrop, tAug, ipI, tIf, tCall, tCallS, tLst, tTup, tBM, tBM0, rAppend, rExtend, rPop, rReverse, tyV, rIxL, rIxT, rIxS, rIsB, rNotB, L2.start, List.map_cons, List.map_nil, List.length_cons, List.length_nil, List.replicate, List.cons_append, List.nil_append, List.append_nil, List.getElem?_cons_zero, List.getElem?_cons_succ, List.set_cons_zero, List.set_cons_succ, Nat.reduceAdd, Nat.reduceSub, Option.some.injEq, exists_eq_left', exists_eq_left, V.int.injEq, V.bl.injEq, V.str.injEq, V.ref.injEq, List.cons.injEq, and_true, true_and, and_assoc, reduceCtorEq, false_and, exists_false, or_false, false_or, exists_and_left, exists_const, scal, Int.reduceLT, Int.reduceLE, Int.reduceSub, Int.reduceAdd, Int.reduceNeg, if_true, if_false]
      exact q u H2 (by omega) hd2 b2

end
end K19

namespace K19
open PySem PySem.Spec PyProof.Rows L2 Cox
section
variable {P : Program} {w : World} {K : PySem.W.Frag} {mg : Str → Option Value} {base : Heap} {cx : Xs}
theorem zl : ∀ n : Nat, n ≤ 2000 → n ≤ sizeLine := fun n h => Nat.le_trans h (by decide)
theorem zw {u : W} (h : u.length ≤ 2000) : (wS u).length ≤ sizeLine := by rw [wS_len]; exact zl _ h

theorem okOrders_of {a b c : Nat} (ha : okOrd a) (hb : okOrd b) (hc : okOrd c) : okOrders [(a : Int), (b : Int), (c : Int)] = true := by
  have one : ∀ {n : Nat}, okOrd n → okOrder (n : Int) = true := fun {n} h => by
    unfold okOrder
    simp only [Bool.or_eq_true, Bool.and_eq_true, decide_eq_true_eq]
    rcases h with h | h <;> omega
  unfold okOrders
  simp [one ha, one hb, one hc]

theorem nfw_congr {a b c : Nat} (ha : okOrd a) (hb : okOrd b) (hc : okOrd c) {u v : W} (hu : u.length ≤ 500) (hv : v.length ≤ 500) (h : Eqv (om a b c) u v) : nfw a b c u = nfw a b c v := by
  have h1 := nfw_ok ha hb hc (w := u) (by omega)
  have h2 := nfw_ok ha hb hc (w := v) (by omega)
  have e : (nfw a b c u).length = (nfw a b c v).length := by rw [h1.2.2.1, h2.2.2.1, ln_eqv h]
  exact lx_antisymm e (h1.2.2.2 _ h2.2.1 (h.trans h2.1)) (h2.2.2.2 _ h1.2.1 (h.symm.trans h1.1))
/-- the letters of three orders, with what is known of them -/
structure Og (K : PySem.W.Frag) (H : Hp) (o : Addr) (a b c : Nat) : Prop where
  ob : H o = some (.tup [.int (a : Int), .int (b : Int), .int (c : Int)])
  ha : okOrd a
  hb : okOrd b
  hc : okOrd c
theorem Og.same {H H' : Hp} {o : Addr} {a b c : Nat} (h : Og K H o a b c) (s : Same H H') : Og K H' o a b c := ⟨s _ _ h.ob, h.ha, h.hb, h.hc⟩
theorem Og.ok {H : Hp} {o : Addr} {a b c : Nat} (h : Og K H o a b c) : okOrders [(a : Int), (b : Int), (c : Int)] = true := okOrders_of h.ha h.hb h.hc
theorem Og.but {H H' : Hp} {o d : Addr} {a b c : Nat} (h : Og K H o a b c) (hd : Dr H d) (s : FK.But d H H') : Og K H' o a b c := ⟨s _ _ (fun z => by
    obtain ⟨ds, h3, _⟩ := hd
    rw [← z, h.ob] at h3
    cases h3) h.ob, h.ha, h.hb, h.hc⟩
theorem inj3 {a b c a' b' c' : Nat} (h : [(a : Int), (b : Int), (c : Int)] = [(a' : Int), (b' : Int), (c' : Int)]) : a = a' ∧ b = b' ∧ c = c' := by
  simp only [List.cons.injEq, and_true, Int.natCast_inj] at h
  exact h
theorem szw {u : W} (h : u.length ≤ 500) : (wS u).length < sizeLine := by rw [wS_len]; exact Nat.lt_of_le_of_lt h (by show 500 < 16777216; decide)
def spN1 (K : PySem.W.Frag) : Sp := fun vs H Q _ => ∃ (o : Addr) (a b c : Nat) (u : W), vs = [.ref o, .str (wS u)] ∧ Og K H o a b c ∧ u.length ≤ 60 ∧ ∀ H', Same H H' → Q (.str (wS (nfw a b c u))) H'
theorem imp_normal {C D : Addr} : ∀ vs H Q E, spN1 K vs H Q E → spNormal K C D vs H Q E := by
  rintro vs H Q E ⟨o, a, b, c, u, rfl, g, hu, q⟩
  refine ⟨o, _, wS u, rfl, (show SqT K H o (([(a : Int), (b : Int), (c : Int)] : List Int).map V.int) from SqT.of g.ob), szw (by omega), (fun e => by rw [g.ok] at e; cases e), (fun _ e => by rw [okWord_wS (by omega)] at e; cases e), fun _ _ a' b' c' w' H' e _ _ _ e2 _ s' => ?_⟩
  obtain ⟨rfl, rfl, rfl⟩ := inj3 e
  rw [← wS_inj e2]
  exact q H' s'

def spCheckWords (K : PySem.W.Frag) (C : Addr) : Sp := fun vs H Q E => ∃ (a : Addr) (xs : List Str), vs = [.ref a] ∧ SqL K H a (xs.map V.str) ∧ (∀ x ∈ xs, x.length < sizeLine) ∧ (xs.all (fun x => okWord x 60) = false → ∀ H', Same H H' → E (.ref C) none H') ∧ (xs.all (fun x => okWord x 60) = true → ∀ H', Same H H' → Q .non H')
theorem ok_check_words (T : Txt K mg cx) : FK.Has P w K mg base (L2.CX P w) 6 "check_words" ["words"] (spCheckWords K cx.NotWord) := by
  have H_check_word := ok_check_word (P := P) (w := w) (base := base) T
  refine T.d_check_words.okX sc_check_words (fun vs H Q E h => ?_) (fun f cdv A outer s H vs Q E hr h => ?_)
  · obtain ⟨a, xs, rfl, _⟩ := h
    rfl
  · obtain ⟨a, xs, rfl, hS, hx, qE, q⟩ := h
    refine ⟨_, (pss_one (ps_for (passes_of rfl) rfl (pi_list (pv 0)) (pg_name (i := 1) sc_check_words.nd rfl (Or.inl rfl))
  (pss_one (ps_expr (FK.pe_h (E := E) H_check_word (hr.mono (by decide)) (passes_call (takes_of rfl rfl rfl rfl) (fun _ _ _ _ h => h)) (pa_cons (pv 1) pa_nil)))))), ?_⟩
    simp only [tSeq, tIfS, tOr, tAnd, tB, tTest, tCB, tCons, tVar, tC, tNil, tNot, tNotV, tRet, tRetN, tNext, tBreak, tOrV, tAndV, tOp, tUn, rEq, rNe, tChain, rI0, rI, rU, tAsg, gName, tDrop, tAug, ipI, tIf, tCall, tCallS, tLst, tTup, tBM, tBM0, rAppend, rExtend, rPop, rReverse, tyV, rIxL, rIxT, rIxS, rIsB, rNotB, L2.start, List.map_cons, List.map_nil, List.length_cons, List.length_nil, List.replicate, List.cons_append, List.nil_append, List.append_nil, List.getElem?_cons_zero, List.getElem?_cons_succ, List.set_cons_zero, List.set_cons_succ, Nat.reduceAdd, Nat.reduceSub, Option.some.injEq, exists_eq_left', exists_eq_left, V.int.injEq, V.bl.injEq, V.str.injEq, V.ref.injEq, List.cons.injEq, and_true, true_and, and_assoc, reduceCtorEq, false_and, exists_false, or_false, false_or, exists_and_left, exists_const, scal, Int.reduceLT, Int.reduceLE, Int.reduceSub, Int.reduceAdd, Int.reduceNeg, if_true, if_false]
    refine FK.rd_for (J := Itl K a) (H1 := H) (fun R r => ⟨_, rfl, a, rfl, ⟨_, hS⟩, r⟩) (walk_list (xs := xs.map V.str))
      (fun i σ H' => ∃ v1 : Option V, σ = [some (.ref a), v1] ∧ Same H H' ∧ (xs.take i).all (fun x => okWord x 60) = true) ⟨none, rfl, Same.refl H, rfl⟩ (fun i σ H' _ ⟨_, _, s1, _⟩ => s1.seq hS) ?_ ?_
    · rintro i x σ H1 H2 hi ⟨v1, rfl, s1, hk⟩ ⟨rfl, hx1⟩
      rw [List.getElem?_map] at hx1
      cases e : xs[i]? with
      | none => rw [e] at hx1; cases hx1
      | some y =>
        rw [e] at hx1
        cases hx1
        simp only [tSeq, tIfS, tOr, tAnd, tB, tTest, tCB, tCons, tVar, tC, tNil, tNot, tNotV, tRet, tRetN, tNext, tBreak, tOrV, tAndV, tOp, tUn, rEq, rNe, tChain, rI0, rI, rU, tAsg, gName, tDrop, tAug, ipI, tIf, tCall, tCallS, tLst, tTup, tBM, tBM0, rAppend, rExtend, rPop, rReverse, tyV, rIxL, rIxT, rIxS, rIsB, rNotB, L2.start, List.map_cons, List.map_nil, List.length_cons, List.length_nil, List.replicate, List.cons_append, List.nil_append, List.append_nil, List.getElem?_cons_zero, List.getElem?_cons_succ, List.set_cons_zero, List.set_cons_succ, Nat.reduceAdd, Nat.reduceSub, Option.some.injEq, exists_eq_left', exists_eq_left, V.int.injEq, V.bl.injEq, V.str.injEq, V.ref.injEq, List.cons.injEq, and_true, true_and, and_assoc, reduceCtorEq, false_and, exists_false, or_false, false_or, exists_and_left, exists_const, scal, Int.reduceLT, Int.reduceLE, Int.reduceSub, Int.reduceAdd, Int.reduceNeg, if_true, if_false]
        have hm := List.mem_of_getElem? e
        refine ⟨y, rfl, hx y hm, fun e2 H3 s3 => qE ?_ H3 (s1.trans s3), fun e2 H3 s3 => ⟨s1.trans s3, ?_⟩⟩
        · rw [← Bool.not_eq_true, List.all_eq_true]
          intro h
          rw [h y hm] at e2
          cases e2
        · rw [List.take_add_one, e, List.all_append, hk]
          simpa using e2
    · rintro σ H1 ⟨v1, rfl, s1, hk⟩
      rw [List.length_map, List.take_length] at hk
      exact q hk H1 s1

def fldsT (f n : Addr) : List (Str × V) := putF "normals" (.ref n) (putF "floor" (.ref f) [])
theorem ksf : ¬ (("floor" : Str) = "normals") := by decide +kernel
theorem fldsT_f (f n : Addr) : (fldsT f n).lookup ("floor" : Str) = some (.ref f) := by
  unfold fldsT
  rw [lookup_putF, if_neg ksf, lookup_putF, if_pos rfl]
theorem fldsT_n (f n : Addr) : (fldsT f n).lookup ("normals" : Str) = some (.ref n) := by
  unfold fldsT
  rw [lookup_putF, if_pos rfl]
theorem fldsT_no (f n : Addr) {m : Str} (h1 : ¬ m = "normals") (h2 : ¬ m = "floor") : (fldsT f n).lookup m = none := by
  unfold fldsT
  rw [lookup_putF, if_neg h1, lookup_putF, if_neg h2]
  all_goals rfl
/-- a Tiles stands at t, with at most k words remembered -/
structure TlAt (K : PySem.W.Frag) (CT CF : Addr) (H : Hp) (t f n o d : Addr) (a b c k : Nat) : Prop where
  ob : ∃ dx, H t = some (.ins CT dx (fldsT f n))
  fl : FlAt K CF H f o d a b c
  nd : n ≠ d
  dc : ∃ kvs : List (Key × V), H n = some (.dK kvs) ∧ (kvs.map (·.1)).Nodup ∧ kvs.length ≤ k ∧ ∀ kv ∈ kvs, ∃ u : W, u.length ≤ 400 ∧ kv = (.inr (wS u), .str (wS (nfw a b c u)))
/-- all but two places stay -/
def But2 (d n : Addr) (H H' : Hp) : Prop := ∀ b u, b ≠ d → b ≠ n → H b = some u → H' b = some u
theorem But2.trans {d n : Addr} {H H1 H2 : Hp} (h : But2 d n H H1) (k : But2 d n H1 H2) : But2 d n H H2 := fun b u h1 h2 e => k b u h1 h2 (h b u h1 h2 e)
theorem But2.of {d n : Addr} {H H1 : Hp} (h : FK.But d H H1) : But2 d n H H1 := fun b u h1 _ e => h b u h1 e
theorem FlAt.updN {C : Addr} {H : Hp} {f o d n : Addr} {a b c : Nat} {kvs : List (Key × V)} {u : HO} (F : FlAt K C H f o d a b c) (hn : H n = some (.dK kvs)) (nd : n ≠ d) : FlAt K C (upd H n u) f o d a b c := by
  obtain ⟨⟨dx, h1⟩, h2, ha, hb, hc, k2, h3, h4, h5⟩ := F
  refine ⟨⟨dx, by rw [upd_ne (fun z => by rw [z, hn] at h1; cases h1)]; exact h1⟩, SqT.upd h2 hn, ha, hb, hc, k2, by rw [upd_ne nd.symm]; exact h3, h4, fun kv hm => ?_⟩
  obtain ⟨s', p, a1, a2, a3⟩ := h5 kv hm
  exact ⟨s', p, a1, a2, a3.upd hn⟩
theorem SqT.frame {H H' : Hp} {o t : Addr} {xs : List V} {C dx : Addr} {fl : List (Str × V)} (h : SqT K H o xs) (ht : H t = some (.ins C dx fl)) (fr : ∀ b u, H b = some u → b ≠ t → H' b = some u) : SqT K H' o xs := by
  rcases h with (h | ⟨ob, h⟩) | h
  · exact .inl (.inl (fr _ _ h (fun z => by rw [z, ht] at h; cases h)))
  · exact .inl (.inr ⟨ob, fr _ _ h (fun z => by rw [z, ht] at h; cases h)⟩)
  · exact .inr h
theorem ScAt.frame {H H' : Hp} {p t : Addr} {a b c bits : Nat} {C dx : Addr} {fl : List (Str × V)} (h : ScAt K H p a b c bits) (ht : H t = some (.ins C dx fl)) (fr : ∀ b u, H b = some u → b ≠ t → H' b = some u) : ScAt K H' p a b c bits := by
  obtain ⟨bt, h1, h2⟩ := h
  exact ⟨bt, fr _ _ h1 (fun z => by rw [z, ht] at h1; cases h1), fr _ _ h2 (fun z => by rw [z, ht] at h2; cases h2)⟩
theorem FlAt.frame {C : Addr} {H H' : Hp} {f o d t : Addr} {a b c : Nat} {C' dx' : Addr} {fl : List (Str × V)} (F : FlAt K C H f o d a b c) (ht : H t = some (.ins C' dx' fl)) (fr : ∀ b u, H b = some u → b ≠ t → H' b = some u) (nt : t ≠ f) : FlAt K C H' f o d a b c := by
  obtain ⟨⟨dx, h1⟩, h2, ha, hb, hc, k2, h3, h4, h5⟩ := F
  refine ⟨⟨dx, fr _ _ h1 nt.symm⟩, SqT.frame h2 ht fr, ha, hb, hc, k2, fr _ _ h3 (fun z => by rw [z, ht] at h3; cases h3), h4, fun kv hm => ?_⟩
  obtain ⟨s', p, a1, a2, a3⟩ := h5 kv hm
  exact ⟨s', p, a1, a2, ScAt.frame a3 ht fr⟩
def spTilesInit (K : PySem.W.Frag) (CT CF : Addr) : Sp := fun vs H Q _ => ∃ (t o dx : Addr) (a b c : Nat), vs = [.ref t, .ref o] ∧ H t = some (.ins CT dx []) ∧ Og K H o a b c ∧
  ∀ f n d H', TlAt K CT CF H' t f n o d a b c 0 → H n = none → H d = none → (∀ b u, H b = some u → b ≠ t → H' b = some u) → Q .non H'
theorem ok_Tiles_init (T : Txt K mg cx) : FK.IHas P w K mg base (L2.CX P w) 5 cx.Tiles ["self", "orders"] (spTilesInit K cx.Tiles cx.Floor) := by
  have H_check_orders := ok_check_orders (P := P) (w := w) (base := base) T
  have H_Floor_init := ok_Floor_init (P := P) (w := w) (mg := mg) (base := base) T
  refine T.d_Tiles_init.okX sc_Tiles_init (fun vs H Q E h => ?_) (fun f cdv A outer s H vs Q E hr h => ?_)
  · obtain ⟨f, o, dx, a, b, c, rfl, _⟩ := h
    rfl
  · obtain ⟨t, o, dx, a, b, c, rfl, ht, g, q⟩ := h
    refine ⟨_, (pss_cons (ps_expr (FK.pe_h (E := E) H_check_orders (hr.mono (by decide)) (passes_call (takes_of rfl rfl rfl rfl) (fun _ _ _ _ h => h)) (pa_cons (pv 1) pa_nil)))
  (pss_cons (ps_fld (pv 0) (FK.pe_i (E := E0) H_Floor_init (hr.mono (by decide)) T.g_Floor pass0 (pa_cons (pv 1) pa_nil)) rfl)
  (pss_one (ps_fld (pv 0) pe_dnewK rfl)))), ?_⟩
    simp only [tSeq, tIfS, tOr, tAnd, tB, tTest, tCB, tCons, tVar, tC, tNil, tNot, tNotV, tRet, tRetN, tNext, tBreak, tOrV, tAndV, tOp, tUn, rEq, rNe, tChain, rI0, rI, rU, tAsg, gName, tDrop, tAug, ipI, tIf, tCall, tCallS, tLst, tTup, tBM, tBM0, rAppend, rExtend, rPop, rReverse, tyV, rIxL, rIxT, rIxS, rIsB, rNotB, L2.start, List.map_cons, List.map_nil, List.length_cons, List.length_nil, List.replicate, List.cons_append, List.nil_append, List.append_nil, List.getElem?_cons_zero, List.getElem?_cons_succ, List.set_cons_zero, List.set_cons_succ, Nat.reduceAdd, Nat.reduceSub, Option.some.injEq, exists_eq_left', exists_eq_left, V.int.injEq, V.bl.injEq, V.str.injEq, V.ref.injEq, List.cons.injEq, and_true, true_and, and_assoc, reduceCtorEq, false_and, exists_false, or_false, false_or, exists_and_left, exists_const, scal, Int.reduceLT, Int.reduceLE, Int.reduceSub, Int.reduceAdd, Int.reduceNeg, if_true, if_false, tMeth, tMake]
    refine ⟨o, [(a : Int), (b : Int), (c : Int)], rfl, SqT.of g.ob, (fun e => by rw [g.ok] at e; cases e), fun _ H1 s1 => ?_⟩
    simp only [tSeq, tIfS, tOr, tAnd, tB, tTest, tCB, tCons, tVar, tC, tNil, tNot, tNotV, tRet, tRetN, tNext, tBreak, tOrV, tAndV, tOp, tUn, rEq, rNe, tChain, rI0, rI, rU, tAsg, gName, tDrop, tAug, ipI, tIf, tCall, tCallS, tLst, tTup, tBM, tBM0, rAppend, rExtend, rPop, rReverse, tyV, rIxL, rIxT, rIxS, rIsB, rNotB, L2.start, List.map_cons, List.map_nil, List.length_cons, List.length_nil, List.replicate, List.cons_append, List.nil_append, List.append_nil, List.getElem?_cons_zero, List.getElem?_cons_succ, List.set_cons_zero, List.set_cons_succ, Nat.reduceAdd, Nat.reduceSub, Option.some.injEq, exists_eq_left', exists_eq_left, V.int.injEq, V.bl.injEq, V.str.injEq, V.ref.injEq, List.cons.injEq, and_true, true_and, and_assoc, reduceCtorEq, false_and, exists_false, or_false, false_or, exists_and_left, exists_const, scal, Int.reduceLT, Int.reduceLE, Int.reduceSub, Int.reduceAdd, Int.reduceNeg, if_true, if_false, sFld, tMake]
    refine fun f dx1 hf hdx ne => ⟨f, o, dx1, rfl, upd_same, fun d H4 hd e1 e2 kp => ?_⟩
    obtain ⟨F, s4, hd2⟩ := floor_new (SqT.of (g.same s1).ob) g.ha g.hb g.hc hf hdx hd e1 e2 kp
    have t1 : H1 t = _ := s1 _ _ ht
    have t4 : H4 t = _ := s4 _ _ t1
    refine ⟨rfl, cx.Tiles, dx, [], t4, T.cl_Tiles, T.nF_Tiles_floor, (by show 0 < 1000; decide), fun n hn => ?_⟩
    have ntn : n ≠ t := fun z => by rw [z, upd_same] at hn; cases hn
    have hn4 : H4 n = none := by rw [upd_ne ntn] at hn; exact hn
    have ntf : t ≠ f := fun z => by rw [z, hf] at t1; cases t1
    have ntd : t ≠ d := fun z => by rw [z, hd2] at t1; cases t1
    have nnd : n ≠ d := fun z => by rw [z, e2] at hn4; cases hn4
    have hn0 : H n = none := back (s1.trans s4) hn4
    have hd0 : H d = none := back s1 hd2
    refine ⟨cx.Tiles, dx, _, by rw [upd_ne ntn.symm, upd_same], T.cl_Tiles, T.nF_Tiles_normals, (by show 1 < 1000; decide), ?_⟩
    have fr : ∀ b u, H4 b = some u → b ≠ t → upd (upd (upd H4 t (.ins cx.Tiles dx (putF "floor" (.ref f) []))) n (.dK [])) t (.ins cx.Tiles dx (fldsT f n)) b = some u := fun b u e hb => by
      rw [upd_ne hb, upd_ne (fun z => by rw [z, hn4] at e; cases e), upd_ne hb]
      exact e
    exact q f n d _ ⟨⟨dx, upd_same⟩, F.frame t4 fr ntf, nnd, [], by rw [upd_ne ntn, upd_same], List.nodup_nil, Nat.zero_le _, fun _ h => nomatch h⟩ hn0 hd0 fun b u e hb => fr b u (s4 _ _ (s1 _ _ e)) hb
def spRemem (K : PySem.W.Frag) (CT CF : Addr) : Sp := fun vs H Q _ => ∃ (t f n o d : Addr) (a b c k : Nat) (u : W), vs = [.ref t, .str (wS u)] ∧ TlAt K CT CF H t f n o d a b c k ∧ u.length ≤ 400 ∧ k ≤ 1000000 ∧
  ∀ H', TlAt K CT CF H' t f n o d a b c (k + 1) → But2 d n H H' → Q (.str (wS (nfw a b c u))) H'
theorem ok_Tiles_remembered (T : Txt K mg cx) : FK.MHas P w K mg base CX0 6 cx.Tiles "remembered" ["self", "word"] (spRemem K cx.Tiles cx.Floor) := by
  have H_Floor_normal := ok_Floor_normal (P := P) (w := w) (mg := mg) (base := base) T
  refine T.d_Tiles_remembered.ok sc_Tiles_remembered (fun vs H Q E h => ?_) (fun f cdv A outer s H vs Q E hr h => ?_)
  · obtain ⟨t, f, n, o, d, a, b, c, k, u, rfl, _⟩ := h
    rfl
  · obtain ⟨t, f, n, o, d, a, b, c, k, u, rfl, Tl, hu, hk, q⟩ := h
    obtain ⟨⟨dx, h1⟩, h2, h0, kvs, h3, h4, h5, h6⟩ := id Tl
    refine ⟨_, (pss_cons (ps_if (pt_cmp (pc_dnotin (hu_of hr) (pv 1) (pe_fld (pv 0) rfl))) (pss_one (ps_dput (hu_of hr) (pe_fld (pv 0) rfl) (pv 1) (FK.pe_m (E := E0) (pe_fld (pv 0) rfl) T.cl_Floor H_Floor_normal (hr.mono (by decide)) pass0 (pa_cons (pv 1) pa_nil)) rfl)) pss_nil)
  (pss_one (ps_ret (pe_dget (hu_of hr) (pe_fld (pv 0) rfl) (pv 1) (fun _ _ => rfl))))), ?_⟩
    simp only [tSeq, tIfS, tOr, tAnd, tB, tTest, tCB, tCons, tVar, tC, tNil, tNot, tNotV, tRet, tRetN, tNext, tBreak, tOrV, tAndV, tOp, tUn, rEq, rNe, tChain, rI0, rI, rU, tAsg, gName, tDrop, tAug, ipI, tIf, tCall, tCallS, tLst, tTup, tBM, tBM0, rAppend, rExtend, rPop, rReverse, tyV, rIxL, rIxT, rIxS, rIsB, rNotB, L2.start, List.map_cons, List.map_nil, List.length_cons, List.length_nil, List.replicate, List.cons_append, List.nil_append, List.append_nil, List.getElem?_cons_zero, List.getElem?_cons_succ, List.set_cons_zero, List.set_cons_succ, Nat.reduceAdd, Nat.reduceSub, Option.some.injEq, exists_eq_left', exists_eq_left, V.int.injEq, V.bl.injEq, V.str.injEq, V.ref.injEq, List.cons.injEq, and_true, true_and, and_assoc, reduceCtorEq, false_and, exists_false, or_false, false_or, exists_and_left, exists_const, scal, Int.reduceLT, Int.reduceLE, Int.reduceSub, Int.reduceAdd, Int.reduceNeg, if_true, if_false, tMeth]
    refine ⟨_, rfl, _, rfl, t, cx.Tiles, dx, _, _, rfl, h1, T.cl_Tiles, T.nF_Tiles_normals, fldsT_n _ _, n, _, rfl, DGet.k (k := Sum.inr (wS u)) h3, _, rfl, ?_⟩
    cases e : valV kvs (Sum.inr (wS u)) with
    | none =>
      refine iteT' (by simp) ?_
      simp only [tSeq, tIfS, tOr, tAnd, tB, tTest, tCB, tCons, tVar, tC, tNil, tNot, tNotV, tRet, tRetN, tNext, tBreak, tOrV, tAndV, tOp, tUn, rEq, rNe, tChain, rI0, rI, rU, tAsg, gName, tDrop, tAug, ipI, tIf, tCall, tCallS, tLst, tTup, tBM, tBM0, rAppend, rExtend, rPop, rReverse, tyV, rIxL, rIxT, rIxS, rIsB, rNotB, L2.start, List.map_cons, List.map_nil, List.length_cons, List.length_nil, List.replicate, List.cons_append, List.nil_append, List.append_nil, List.getElem?_cons_zero, List.getElem?_cons_succ, List.set_cons_zero, List.set_cons_succ, Nat.reduceAdd, Nat.reduceSub, Option.some.injEq, exists_eq_left', exists_eq_left, V.int.injEq, V.bl.injEq, V.str.injEq, V.ref.injEq, List.cons.injEq, and_true, true_and, and_assoc, reduceCtorEq, false_and, exists_false, or_false, false_or, exists_and_left, exists_const, scal, Int.reduceLT, Int.reduceLE, Int.reduceSub, Int.reduceAdd, Int.reduceNeg, if_true, if_false, sDPut, tMeth]
      obtain ⟨dxf, ef⟩ := h2.ob
      refine ⟨_, rfl, t, cx.Tiles, dx, _, _, rfl, h1, T.cl_Tiles, T.nF_Tiles_floor, fldsT_f _ _, f, rfl, dxf, _, ef, fldsF_no _ _ (by decide +kernel) (by decide +kernel), f, o, d, a, b, c, u, rfl, h2, by omega, fun H5 F5 b5 => ?_⟩
      have nt : t ≠ d := fun z => by
        obtain ⟨_, _, _, _, _, k2, h7, _⟩ := h2
        rw [← z, h1] at h7
        cases h7
      have ntn : t ≠ n := fun z => by rw [z, h3] at h1; cases h1
      have k1 := b5 _ _ nt h1
      have k3 := b5 _ _ h0 h3
      refine ⟨_, rfl, t, cx.Tiles, dx, _, _, rfl, k1, T.cl_Tiles, T.nF_Tiles_normals, fldsT_n _ _, n, rfl, _, DPut.k (k := Sum.inr (wS u)) k3 (Nat.lt_of_le_of_lt (show _ ≤ 1000000 by omega) (by decide)), ?_⟩
      have hg := DGet.k (k := Sum.inr (wS u)) (upd_same (H := H5) (a := n) (o := HO.dK (putK kvs (Sum.inr (wS u)) (V.str (wS (nfw a b c u))))))
      rw [valV_put, if_pos rfl] at hg
      refine ⟨_, rfl, t, cx.Tiles, dx, _, _, rfl, by rw [upd_ne ntn]; exact k1, T.cl_Tiles, T.nF_Tiles_normals, fldsT_n _ _, _, rfl, n, _, rfl, hg, q _ ⟨⟨dx, by rw [upd_ne ntn]; exact k1⟩, F5.updN k3 h0, h0, _, upd_same, nd_putK _ h4 e, ?_, fun kv hm => ?_⟩ (fun b u h1 h2 e => by rw [upd_ne h2]; exact b5 b u h1 e)⟩
      · rw [putK_new _ e, List.length_append, List.length_singleton]
        omega
      · rw [putK_new _ e] at hm
        rcases List.mem_append.mp hm with hm | hm
        · exact h6 kv hm
        · exact ⟨u, hu, List.mem_singleton.mp hm⟩
    | some v =>
      refine iteF' (by simp) ?_
      have hm := valV_mem e
      obtain ⟨u', lu', hp⟩ := h6 _ hm
      have e1 : u = u' := wS_inj (by
        have := congrArg Prod.fst hp
        simpa using this)
      have e2 : v = V.str (wS (nfw a b c u')) := congrArg Prod.snd hp
      subst e1 e2
      have hg := DGet.k (k := Sum.inr (wS u)) h3
      rw [e] at hg
      exact ⟨_, rfl, t, cx.Tiles, dx, _, _, rfl, h1, T.cl_Tiles, T.nF_Tiles_normals, fldsT_n _ _, _, rfl, n, _, rfl, hg, q H ⟨⟨dx, h1⟩, h2, h0, kvs, h3, h4, by omega, h6⟩ (fun _ _ _ _ e => e)⟩
def spTNorm (K : PySem.W.Frag) (CT CF : Addr) : Sp := spRemem K CT CF
theorem ok_Tiles_normal (T : Txt K mg cx) : FK.MHas P w K mg base (L2.CX P w) 7 cx.Tiles "normal" ["self", "word"] (spTNorm K cx.Tiles cx.Floor) := by
  have H_check_long_word := ok_check_long_word (P := P) (w := w) (base := base) T
  have H_Tiles_remembered := ok_Tiles_remembered (P := P) (w := w) (mg := mg) (base := base) T
  refine T.d_Tiles_normal.okX sc_Tiles_normal (fun vs H Q E h => ?_) (fun f cdv A outer s H vs Q E hr h => ?_)
  · obtain ⟨t, f, n, o, d, a, b, c, k, u, rfl, _⟩ := h
    rfl
  · obtain ⟨t, f, n, o, d, a, b, c, k, u, rfl, Tl, hu, hk, q⟩ := h
    refine ⟨_, (pss_cons (ps_expr (FK.pe_h (E := E) H_check_long_word (hr.mono (by decide)) (passes_call (takes_of rfl rfl rfl rfl) (fun _ _ _ _ h => h)) (pa_cons (pv 1) (pa_cons (pe_glob (v := .int 400) rfl T.c_MOST_REMEMBERED ⟨_, rfl⟩) pa_nil))))
  (pss_one (ps_ret (FK.pe_m (E := E0) (pv 0) T.cl_Tiles H_Tiles_remembered (hr.mono (by decide)) pass0 (pa_cons (pv 1) pa_nil))))), ?_⟩
    simp only [tSeq, tIfS, tOr, tAnd, tB, tTest, tCB, tCons, tVar, tC, tNil, tNot, tNotV, tRet, tRetN, tNext, tBreak, tOrV, tAndV, tOp, tUn, rEq, rNe, tChain, rI0, rI, rU, tAsg, gName, tDrop, tAug, ipI, tIf, tCall, tCallS, tLst, tTup, tBM, tBM0, rAppend, rExtend, rPop, rReverse, tyV, rIxL, rIxT, rIxS, rIsB, rNotB, L2.start, List.map_cons, List.map_nil, List.length_cons, List.length_nil, List.replicate, List.cons_append, List.nil_append, List.append_nil, List.getElem?_cons_zero, List.getElem?_cons_succ, List.set_cons_zero, List.set_cons_succ, Nat.reduceAdd, Nat.reduceSub, Option.some.injEq, exists_eq_left', exists_eq_left, V.int.injEq, V.bl.injEq, V.str.injEq, V.ref.injEq, List.cons.injEq, and_true, true_and, and_assoc, reduceCtorEq, false_and, exists_false, or_false, false_or, exists_and_left, exists_const, scal, Int.reduceLT, Int.reduceLE, Int.reduceSub, Int.reduceAdd, Int.reduceNeg, if_true, if_false, tMeth]
    refine ⟨wS u, 400, rfl, szw (by omega), .inr (.inr rfl), (fun e => by rw [okWord_wS (by omega)] at e; cases e), fun _ H1 s1 => ?_⟩
    obtain ⟨⟨dx, h1⟩, h2, h0, kvs, h3, h4, h5, h6⟩ := id Tl
    exact ⟨dx, _, s1 _ _ h1, fldsT_no _ _ (by decide +kernel) (by decide +kernel), t, f, n, o, d, a, b, c, k, u, rfl, ⟨⟨dx, s1 _ _ h1⟩, h2.same s1, h0, kvs, s1 _ _ h3, h4, h5, h6⟩, hu, hk, fun H2 Tl2 b2 => q H2 Tl2 (fun b u h1 h2 e => b2 b u h1 h2 (s1 _ _ e))⟩

theorem TlAt.mono {CT CF : Addr} {H : Hp} {t f n o d : Addr} {a b c j k : Nat} (h : TlAt K CT CF H t f n o d a b c j) (hk : j ≤ k) : TlAt K CT CF H t f n o d a b c k := by
  obtain ⟨h1, h2, h3, kvs, h4, h5, h6, h7⟩ := h
  exact ⟨h1, h2, h3, kvs, h4, h5, by omega, h7⟩
structure Sv (K : PySem.W.Frag) (CT CF : Addr) (H : Hp) (o t f n d : Addr) (x y z k : Nat) : Prop where
  g : Og K H o x y z
  tl : TlAt K CT CF H t f n o d x y z k
theorem Sv.fr {CT CF : Addr} {H H' : Hp} {o t f n d D : Addr} {x y z k : Nat} {v : HO} (h : Sv K CT CF H o t f n d x y z k) (hv : (∃ acc, v = .lst acc) ∨ ∃ kvs, v = .dK kvs) (hD : H D = some v) (nn : D ≠ n) (nd : D ≠ d)
    (fr : ∀ b u, H b = some u → b ≠ D → H' b = some u) : Sv K CT CF H' o t f n d x y z k := by
  have tup : ∀ {p : Addr} {l : List V}, H p = some (.tup l) → H' p = some (.tup l) := fun {p l} e => fr p _ e (fun q => by
    rw [q, hD] at e
    rcases hv with ⟨_, rfl⟩ | ⟨_, rfl⟩ <;> cases e)
  have frz : ∀ {p : Addr} {ob : Obj} {u : HO}, H p = some (.frz ob u) → H' p = some (.frz ob u) := fun {p ob u} e => fr p _ e (fun q => by
    rw [q, hD] at e
    rcases hv with ⟨_, rfl⟩ | ⟨_, rfl⟩ <;> cases e)
  have ins : ∀ {p C dx : Addr} {l : List (Str × V)}, H p = some (.ins C dx l) → H' p = some (.ins C dx l) := fun {p C dx l} e => fr p _ e (fun q => by
    rw [q, hD] at e
    rcases hv with ⟨_, rfl⟩ | ⟨_, rfl⟩ <;> cases e)
  obtain ⟨⟨g1, ga, gb, gc⟩, ⟨dx, t1⟩, ⟨⟨dx2, f1⟩, f2, fa, fb, fc, k2, f3, f4, f5⟩, t3, kvs, t4, t5, t6, t7⟩ := h
  refine ⟨⟨tup g1, ga, gb, gc⟩, ⟨dx, ins t1⟩, ⟨⟨dx2, ins f1⟩, ?_, fa, fb, fc, k2, fr _ _ f3 nd.symm, f4, fun kv hm => ?_⟩, t3, kvs, fr _ _ t4 nn.symm, t5, t6, t7⟩
  · rcases f2 with (f2 | ⟨ob, f2⟩) | f2
    · exact .inl (.inl (tup f2))
    · exact .inl (.inr ⟨ob, frz f2⟩)
    · exact .inr f2
  · obtain ⟨s', p, a1, a2, bt, b1, b2⟩ := f5 kv hm
    exact ⟨s', p, a1, a2, bt, tup b1, tup b2⟩
theorem Sv.same {CT CF : Addr} {H H' : Hp} {o t f n d : Addr} {x y z k : Nat} (h : Sv K CT CF H o t f n d x y z k) (s : Same H H') : Sv K CT CF H' o t f n d x y z k := by
  obtain ⟨g, t1, fl, t3, kvs, t4, t5, t6, t7⟩ := h
  obtain ⟨dx, t1⟩ := t1
  exact ⟨g.same s, ⟨dx, s _ _ t1⟩, fl.same s, t3, kvs, s _ _ t4, t5, t6, t7⟩
theorem Sv.nrm {CT CF : Addr} {H H' : Hp} {o t f n d : Addr} {x y z k k' : Nat} (h : Sv K CT CF H o t f n d x y z k) (tl : TlAt K CT CF H' t f n o d x y z k') (b : But2 d n H H') : Sv K CT CF H' o t f n d x y z k' := by
  obtain ⟨⟨g1, ga, gb, gc⟩, ⟨dx, t1⟩, ⟨⟨dx2, f1⟩, f2, fa, fb, fc, k2, f3, f4, f5⟩, t3, kvs, t4, t5, t6, t7⟩ := h
  exact ⟨⟨b _ _ (fun q => by rw [q, f3] at g1; cases g1) (fun q => by rw [q, t4] at g1; cases g1) g1, ga, gb, gc⟩, tl⟩
theorem Sv.nes {CT CF : Addr} {H : Hp} {o t f n d p : Addr} {x y z k : Nat} (h : Sv K CT CF H o t f n d x y z k) (hp : H p = none) : p ≠ n ∧ p ≠ d := by
  obtain ⟨g, t1, ⟨_, _, _, _, _, k2, f3, _⟩, t3, kvs, t4, _⟩ := h
  exact ⟨(fun q => by rw [q, t4] at hp; cases hp), (fun q => by rw [q, f3] at hp; cases hp)⟩
theorem Sv.mono {CT CF : Addr} {H : Hp} {o t f n d : Addr} {x y z j k : Nat} (h : Sv K CT CF H o t f n d x y z j) (hk : j ≤ k) : Sv K CT CF H o t f n d x y z k := ⟨h.g, h.tl.mono hk⟩
/-- a list stands beside a Tiles -/
theorem Sv.nel {CT CF : Addr} {H : Hp} {o t f n d p : Addr} {x y z k : Nat} {l : List V} (h : Sv K CT CF H o t f n d x y z k) (hp : H p = some (.lst l)) : p ≠ n ∧ p ≠ d := by
  obtain ⟨g, t1, ⟨_, _, _, _, _, k2, f3, _⟩, t3, kvs, t4, _⟩ := h
  exact ⟨(fun q => by rw [q, t4] at hp; cases hp), (fun q => by rw [q, f3] at hp; cases hp)⟩
theorem Sv.nez {CT CF : Addr} {H : Hp} {o t f n d p : Addr} {x y z k : Nat} {l : List V} (h : Sv K CT CF H o t f n d x y z k) (hp : H p = some (.tup l)) : p ≠ n ∧ p ≠ d := by
  obtain ⟨g, t1, ⟨_, _, _, _, _, k2, f3, _⟩, t3, kvs, t4, _⟩ := h
  exact ⟨(fun q => by rw [q, t4] at hp; cases hp), (fun q => by rw [q, f3] at hp; cases hp)⟩
theorem Sv.lst {CT CF : Addr} {H H' : Hp} {o t f n d p : Addr} {x y z k : Nat} {l : List V} (h : Sv K CT CF H o t f n d x y z k) (b : But2 d n H H') (hp : H p = some (.lst l)) : H' p = some (.lst l) := b _ _ (h.nel hp).2 (h.nel hp).1 hp
theorem Sv.tup {CT CF : Addr} {H H' : Hp} {o t f n d p : Addr} {x y z k : Nat} {l : List V} (h : Sv K CT CF H o t f n d x y z k) (b : But2 d n H H') (hp : H p = some (.tup l)) : H' p = some (.tup l) := b _ _ (h.nez hp).2 (h.nez hp).1 hp
theorem Sv.dr {CT CF : Addr} {H H' : Hp} {o t f n d dr : Addr} {x y z k : Nat} (h : Sv K CT CF H o t f n d x y z k) (b : But2 d n H H') (hd : Dr H dr) : Dr H' dr := by
  obtain ⟨ds, h1, h2⟩ := hd
  exact ⟨ds, h.lst b h1, h2⟩
theorem Sv.but {CT CF : Addr} {H H' : Hp} {o t f n d dr : Addr} {x y z k : Nat} (h : Sv K CT CF H o t f n d x y z k) (hd : Dr H dr) (b : FK.But dr H H') : Sv K CT CF H' o t f n d x y z k := by
  obtain ⟨ds, h1, _⟩ := hd
  exact h.fr (.inl ⟨_, rfl⟩) h1 (h.nel h1).1 (h.nel h1).2 fun b' u e hb => b b' u hb e
/-- a new Tiles -/
theorem sv_new {H H1 H' : Hp} {CT CF o t f n d : Addr} {x y z : Nat} (G : Og K H o x y z) (ht : H t = none) (s : Same H H1) (Tl : TlAt K CT CF H' t f n o d x y z 0) (fr : ∀ b u, H1 b = some u → b ≠ t → H' b = some u) : Sv K CT CF H' o t f n d x y z 0 :=
  ⟨⟨fr _ _ (s _ _ G.ob) (fun q => by
    have := G.ob
    rw [q, ht] at this
    cases this), G.ha, G.hb, G.hc⟩, Tl⟩

theorem FlAt.ned {C : Addr} {H : Hp} {f o d p : Addr} {a b c : Nat} (h : FlAt K C H f o d a b c) (hp : H p = none) : p ≠ d := by
  obtain ⟨_, _, _, _, _, k2, f3, _⟩ := h
  exact fun q => by rw [q, f3] at hp; cases hp
theorem FlAt.nel {C : Addr} {H : Hp} {f o d p : Addr} {a b c : Nat} {l : List V} (h : FlAt K C H f o d a b c) (hp : H p = some (.lst l)) : p ≠ d := by
  obtain ⟨_, _, _, _, _, k2, f3, _⟩ := h
  exact fun q => by rw [q, f3] at hp; cases hp
/-- a list beside a floor changes -/
theorem FlAt.fr {C : Addr} {H H' : Hp} {f o d D : Addr} {a b c : Nat} {acc : List V} (h : FlAt K C H f o d a b c) (hD : H D = some (.lst acc)) (fr : ∀ b u, H b = some u → b ≠ D → H' b = some u) : FlAt K C H' f o d a b c := by
  have nd := h.nel hD
  have tup : ∀ {p : Addr} {l : List V}, H p = some (.tup l) → H' p = some (.tup l) := fun {p l} e => fr p _ e (fun q => by rw [q, hD] at e; cases e)
  have frz : ∀ {p : Addr} {ob : Obj} {u : HO}, H p = some (.frz ob u) → H' p = some (.frz ob u) := fun {p ob u} e => fr p _ e (fun q => by rw [q, hD] at e; cases e)
  obtain ⟨⟨dx2, f1⟩, f2, fa, fb, fc, k2, f3, f4, f5⟩ := h
  refine ⟨⟨dx2, fr _ _ f1 (fun q => by rw [q, hD] at f1; cases f1)⟩, ?_, fa, fb, fc, k2, fr _ _ f3 nd.symm, f4, fun kv hm => ?_⟩
  · rcases f2 with (f2 | ⟨ob, f2⟩) | f2
    · exact .inl (.inl (tup f2))
    · exact .inl (.inr ⟨ob, frz f2⟩)
    · exact .inr f2
  · obtain ⟨s', p, a1, a2, bt, b1, b2⟩ := f5 kv hm
    exact ⟨s', p, a1, a2, bt, tup b1, tup b2⟩

theorem walk_nat {n : Nat} : Walk (Itr 0 n) n (fun _ => True) (YFn fun i => .int (i : Nat)) := by
  have e : (fun i : Nat => V.int (0 + (i : Nat))) = fun i : Nat => V.int (i : Nat) := by
    funext i
    rw [Int.zero_add]
  rw [← e]
  exact walk_range
theorem at_wS {w : W} {k : Nat} {i : Fin 3} (h : w[k]? = some i) : atI (wS w).cps.toList ((k : Nat) : Int) = some (48 + i.1) := by
  refine atI_nat ?_
  rw [wS_list, List.getElem?_map, h]
  rfl

theorem strOk_wS (u : W) : PyData.strOk (wS u) = true := by
  unfold PyData.strOk
  rw [← Array.all_toList, wS_list, List.all_map, List.all_eq_true]
  intro i _
  have h := i.2
  exact decide_eq_true (show 48 + i.1 < 0x110000 by omega)
theorem map_wS_inj : ∀ {us vs : List W}, us.map wS = vs.map wS → us = vs
  | [], [], _ => rfl
  | [], _ :: _, h => by cases h
  | _ :: _, [], h => by cases h
  | u :: us, v :: vs, h => by
    rw [List.map_cons, List.map_cons] at h
    injection h with h1 h2
    rw [wS_inj h1, map_wS_inj h2]
theorem dec_wS (us vs : List W) : decide (us.map wS = vs.map wS) = decide (us = vs) := decide_eq_decide.2 ⟨map_wS_inj, fun h => by rw [h]⟩
theorem neD_words {H : Hp} {a b : Addr} {us vs : List W} {Q : VK} (ha : SqL K H a ((us.map wS).map V.str)) (hb : SqL K H b ((vs.map wS).map V.str)) (q : Q (.bl (!decide (us = vs))) H) : rNeD K (.ref a) (.ref b) H Q := by
  refine FK.neD_strs ha hb (fun x hx => ?_) (fun x hx => ?_) ?_
  · obtain ⟨u, _, rfl⟩ := List.mem_map.mp hx
    exact strOk_wS u
  · obtain ⟨u, _, rfl⟩ := List.mem_map.mp hx
    exact strOk_wS u
  · rw [dec_wS]
    exact q
theorem eqD_words {H : Hp} {a b : Addr} {us vs : List W} {Q : VK} (ha : SqL K H a ((us.map wS).map V.str)) (hb : SqL K H b ((vs.map wS).map V.str)) (q : Q (.bl (decide (us = vs))) H) : rEqD K (.ref a) (.ref b) H Q := by
  refine FK.eqD_strs ha hb (fun x hx => ?_) (fun x hx => ?_) ?_
  · obtain ⟨u, _, rfl⟩ := List.mem_map.mp hx
    exact strOk_wS u
  · obtain ⟨u, _, rfl⟩ := List.mem_map.mp hx
    exact strOk_wS u
  · rw [dec_wS]
    exact q

/-- what stands beside a floor changes -/
theorem FlAt.frX {C : Addr} {H H' : Hp} {f o d D : Addr} {a b c : Nat} {v : HO} (h : FlAt K C H f o d a b c) (hD : H D = some v) (nd : D ≠ d) (h1 : ∀ l, v ≠ .tup l) (h2 : ∀ ob l, v ≠ .frz ob (.tup l)) (h3 : ∀ C dx l, v ≠ .ins C dx l) (fr : ∀ b u, H b = some u → b ≠ D → H' b = some u) : FlAt K C H' f o d a b c := by
  have tup : ∀ {p : Addr} {l : List V}, H p = some (.tup l) → H' p = some (.tup l) := fun {p l} e => fr p _ e (fun q => by rw [q, hD] at e; exact h1 l (Option.some.inj e))
  have frz : ∀ {p : Addr} {ob : Obj} {l : List V}, H p = some (.frz ob (.tup l)) → H' p = some (.frz ob (.tup l)) := fun {p ob u} e => fr p _ e (fun q => by rw [q, hD] at e; exact h2 ob u (Option.some.inj e))
  obtain ⟨⟨dx2, f1⟩, f2, fa, fb, fc, k2, f3, f4, f5⟩ := h
  refine ⟨⟨dx2, fr _ _ f1 (fun q => by rw [q, hD] at f1; exact h3 _ _ _ (Option.some.inj f1))⟩, ?_, fa, fb, fc, k2, fr _ _ f3 nd.symm, f4, fun kv hm => ?_⟩
  · rcases f2 with (f2 | ⟨ob, f2⟩) | f2
    · exact .inl (.inl (tup f2))
    · exact .inl (.inr ⟨ob, frz f2⟩)
    · exact .inr f2
  · obtain ⟨s', p, a1, a2, bt, b1, b2⟩ := f5 kv hm
    exact ⟨s', p, a1, a2, bt, tup b1, tup b2⟩
theorem FlAt.dd {C : Addr} {H : Hp} {f o d : Addr} {a b c : Nat} (h : FlAt K C H f o d a b c) : ∃ kvs, H d = some (.dK kvs) := by
  obtain ⟨_, _, _, _, _, k2, f3, _⟩ := h
  exact ⟨k2, f3⟩

def keyW (w : W) : Key := .inr (wS w)
theorem keyW_inj (u v : W) (h : keyW u = keyW v) : u = v := wS_inj (Sum.inr.inj h)

/-- which of the errors it is -/
def spKind (CO CW CA : Addr) : FK.SpE := fun a cls dd vs H Q => vs = [.ref a] ∧ dd = none ∧ (cls = .ref CO ∧ (∀ H', Same H H' → Q (.str "orders") H') ∨ cls = .ref CW ∧ (∀ H', Same H H' → Q (.str "word") H') ∨ cls = .ref CA ∧ (∀ H', Same H H' → Q (.str "answer") H'))
theorem ok_law_kind (T : Txt K mg cx) : FK.EHas P w K mg base 1 "_law_kind" ["error"] (spKind cx.NotOrders cx.NotWord cx.NoAnswer) := by
  refine T.d_law_kind.okE sc_law_kind (fun f cdv A outer s H vs Q a oe cls dd hr hz hf h => ?_)
  obtain ⟨rfl, rfl, h⟩ := h
  refine ⟨_, (C8.pss_cut (ps_set (i := 1) sc_law_kind.nd rfl (Or.inl rfl) (by exact (pe_lst pa_nil)))
  (C8.pss_cut (ps_if (pt_val (pe_callB (FK.call_isP hz hf List.mem_cons_self) (by rfl) T.n_isinstance (by decide +kernel) (pa_cons (pv 0) (pa_cons (pe_glob (v := .ref cx.NotOrders) rfl T.x_NotOrders.g rfl) pa_nil)))) (pss_one (ps_expr (pe_bm PySem.F.plainAttrs_list PySem.F.slot_list_append PySem.F.type_list_append mt_append (pv 1) (pa_cons pe_str pa_nil)))) pss_nil)
  (C8.pss_cut (ps_if (pt_val (pe_callB (FK.call_isP hz hf List.mem_cons_self) (by rfl) T.n_isinstance (by decide +kernel) (pa_cons (pv 0) (pa_cons (pe_glob (v := .ref cx.NotWord) rfl T.x_NotWord.g rfl) pa_nil)))) (pss_one (ps_expr (pe_bm PySem.F.plainAttrs_list PySem.F.slot_list_append PySem.F.type_list_append mt_append (pv 1) (pa_cons pe_str pa_nil)))) pss_nil)
  (C8.pss_cut (ps_if (pt_val (pe_callB (FK.call_isP hz hf List.mem_cons_self) (by rfl) T.n_isinstance (by decide +kernel) (pa_cons (pv 0) (pa_cons (pe_glob (v := .ref cx.NoAnswer) rfl T.x_NoAnswer.g rfl) pa_nil)))) (pss_one (ps_expr (pe_bm PySem.F.plainAttrs_list PySem.F.slot_list_append PySem.F.type_list_append mt_append (pv 1) (pa_cons pe_str pa_nil)))) pss_nil)
  (C8.pss_cut (ps_if (pt_val (pe_callB (FK.call_isP hz hf List.mem_cons_self) (by rfl) T.n_isinstance (by decide +kernel) (pa_cons (pv 0) (pa_cons (pe_glob (v := .ref cx.TooLarge) rfl T.x_TooLarge.g rfl) pa_nil)))) (pss_one (ps_expr (pe_bm PySem.F.plainAttrs_list PySem.F.slot_list_append PySem.F.type_list_append mt_append (pv 1) (pa_cons pe_str pa_nil)))) pss_nil)
  (C8.pss_cut (ps_if (PW.pt (pw_and (pt_cmpR op_eq (pe_callB call_len_seq (by rfl) T.n_len PySem.boot_len (pa_cons (pv 1) pa_nil)) pe_int (nomark _)) (pw_and1 (pt_val (pe_callB (FK.call_isP hz hf List.mem_cons_self) (by rfl) T.n_isinstance (by decide +kernel) (pa_cons (pv 0) (pa_cons (pe_glob (v := .ref cx.FoldError) rfl T.x_FoldError.g rfl) pa_nil))))))) (pss_one (ps_ret (pe_ix (r := rIxL K) ix_list (pv 1) pe_int (fun _ _ => rfl)))) pss_nil)
  (pss_one (ps_ret pe_str)))))))), ?_⟩
  refine ⟨fun σ H' => ∃ L, σ = [some (.ref a), some (.ref L)] ∧ H' L = some (.lst []) ∧ H L = none ∧ Same H H', ?_, ?_⟩
  · simp only [tSeq, tIfS, tOr, tAnd, tB, tTest, tCB, tCons, tVar, tC, tNil, tNot, tNotV, tRet, tRetN, tNext, tBreak, tOrV, tAndV, tOp, tUn, rEq, rNe, tChain, rI0, rI, rU, tAsg, gName, tDrop, tAug, ipI, tIf, tCall, tCallS, tLst, tTup, tBM, tBM0, rAppend, rExtend, rPop, rReverse, tyV, rIxL, rIxT, rIxS, rIsB, rNotB, L2.start, List.map_cons, List.map_nil, List.length_cons, List.length_nil, List.replicate, List.cons_append, List.nil_append, List.append_nil, List.getElem?_cons_zero, List.getElem?_cons_succ, List.set_cons_zero, List.set_cons_succ, Nat.reduceAdd, Nat.reduceSub, Option.some.injEq, exists_eq_left', exists_eq_left, V.int.injEq, V.bl.injEq, V.str.injEq, V.ref.injEq, List.cons.injEq, and_true, true_and, and_assoc, reduceCtorEq, false_and, exists_false, or_false, false_or, exists_and_left, exists_const, scal, Int.reduceLT, Int.reduceLE, Int.reduceSub, Int.reduceAdd, Int.reduceNeg, if_true, if_false]
    exact ⟨by decide, fun L hL => ⟨upd_same, hL, FK.same_new hL⟩⟩
  rintro σ H1 ⟨L, rfl, eL, hL, s1⟩
  rcases h with ⟨rfl, q⟩ | ⟨rfl, q⟩ | ⟨rfl, q⟩
  · refine ⟨fun σ H' => σ = [some (.ref a), some (.ref L)] ∧ H' L = some (.lst [V.str "orders"]) ∧ Same H H', ?_, ?_⟩
    · simp only [tSeq, tIfS, tOr, tAnd, tB, tTest, tCB, tCons, tVar, tC, tNil, tNot, tNotV, tRet, tRetN, tNext, tBreak, tOrV, tAndV, tOp, tUn, rEq, rNe, tChain, rI0, rI, rU, tAsg, gName, tDrop, tAug, ipI, tIf, tCall, tCallS, tLst, tTup, tBM, tBM0, rAppend, rExtend, rPop, rReverse, tyV, rIxL, rIxT, rIxS, rIsB, rNotB, L2.start, List.map_cons, List.map_nil, List.length_cons, List.length_nil, List.replicate, List.cons_append, List.nil_append, List.append_nil, List.getElem?_cons_zero, List.getElem?_cons_succ, List.set_cons_zero, List.set_cons_succ, Nat.reduceAdd, Nat.reduceSub, Option.some.injEq, exists_eq_left', exists_eq_left, V.int.injEq, V.bl.injEq, V.str.injEq, V.ref.injEq, List.cons.injEq, and_true, true_and, and_assoc, reduceCtorEq, false_and, exists_false, or_false, false_or, exists_and_left, exists_const, scal, Int.reduceLT, Int.reduceLE, Int.reduceSub, Int.reduceAdd, Int.reduceNeg, if_true, if_false, rIsE]
      refine ⟨cx.NotOrders, rfl, T.x_NotOrders.e, _, fun u r => r, _, T.kit_NotOrders_NotOrders, iteT ?_⟩
      exact ⟨.inl ⟨_, SqL.of eL⟩, _, eL, by decide, upd_same, fun b u e => by rw [upd_ne (fun z => by rw [z, hL] at e; cases e)]; exact s1 b u e⟩
    rintro σ H2 ⟨rfl, eL, s1⟩
    refine ⟨fun σ H' => σ = [some (.ref a), some (.ref L)] ∧ H' L = some (.lst [V.str "orders"]) ∧ Same H H', ?_, ?_⟩
    · simp only [tSeq, tIfS, tOr, tAnd, tB, tTest, tCB, tCons, tVar, tC, tNil, tNot, tNotV, tRet, tRetN, tNext, tBreak, tOrV, tAndV, tOp, tUn, rEq, rNe, tChain, rI0, rI, rU, tAsg, gName, tDrop, tAug, ipI, tIf, tCall, tCallS, tLst, tTup, tBM, tBM0, rAppend, rExtend, rPop, rReverse, tyV, rIxL, rIxT, rIxS, rIsB, rNotB, L2.start, List.map_cons, List.map_nil, List.length_cons, List.length_nil, List.replicate, List.cons_append, List.nil_append, List.append_nil, List.getElem?_cons_zero, List.getElem?_cons_succ, List.set_cons_zero, List.set_cons_succ, Nat.reduceAdd, Nat.reduceSub, Option.some.injEq, exists_eq_left', exists_eq_left, V.int.injEq, V.bl.injEq, V.str.injEq, V.ref.injEq, List.cons.injEq, and_true, true_and, and_assoc, reduceCtorEq, false_and, exists_false, or_false, false_or, exists_and_left, exists_const, scal, Int.reduceLT, Int.reduceLE, Int.reduceSub, Int.reduceAdd, Int.reduceNeg, if_true, if_false, rIsE]
      exact ⟨cx.NotOrders, rfl, T.x_NotOrders.e, _, fun u r => r, _, T.kit_NotOrders_NotWord, iteF ⟨eL, s1⟩⟩
    rintro σ H3 ⟨rfl, eL, s1⟩
    refine ⟨fun σ H' => σ = [some (.ref a), some (.ref L)] ∧ H' L = some (.lst [V.str "orders"]) ∧ Same H H', ?_, ?_⟩
    · simp only [tSeq, tIfS, tOr, tAnd, tB, tTest, tCB, tCons, tVar, tC, tNil, tNot, tNotV, tRet, tRetN, tNext, tBreak, tOrV, tAndV, tOp, tUn, rEq, rNe, tChain, rI0, rI, rU, tAsg, gName, tDrop, tAug, ipI, tIf, tCall, tCallS, tLst, tTup, tBM, tBM0, rAppend, rExtend, rPop, rReverse, tyV, rIxL, rIxT, rIxS, rIsB, rNotB, L2.start, List.map_cons, List.map_nil, List.length_cons, List.length_nil, List.replicate, List.cons_append, List.nil_append, List.append_nil, List.getElem?_cons_zero, List.getElem?_cons_succ, List.set_cons_zero, List.set_cons_succ, Nat.reduceAdd, Nat.reduceSub, Option.some.injEq, exists_eq_left', exists_eq_left, V.int.injEq, V.bl.injEq, V.str.injEq, V.ref.injEq, List.cons.injEq, and_true, true_and, and_assoc, reduceCtorEq, false_and, exists_false, or_false, false_or, exists_and_left, exists_const, scal, Int.reduceLT, Int.reduceLE, Int.reduceSub, Int.reduceAdd, Int.reduceNeg, if_true, if_false, rIsE]
      exact ⟨cx.NotOrders, rfl, T.x_NotOrders.e, _, fun u r => r, _, T.kit_NotOrders_NoAnswer, iteF ⟨eL, s1⟩⟩
    rintro σ H4 ⟨rfl, eL, s1⟩
    refine ⟨fun σ H' => σ = [some (.ref a), some (.ref L)] ∧ H' L = some (.lst [V.str "orders"]) ∧ Same H H', ?_, ?_⟩
    · simp only [tSeq, tIfS, tOr, tAnd, tB, tTest, tCB, tCons, tVar, tC, tNil, tNot, tNotV, tRet, tRetN, tNext, tBreak, tOrV, tAndV, tOp, tUn, rEq, rNe, tChain, rI0, rI, rU, tAsg, gName, tDrop, tAug, ipI, tIf, tCall, tCallS, tLst, tTup, tBM, tBM0, rAppend, rExtend, rPop, rReverse, tyV, rIxL, rIxT, rIxS, rIsB, rNotB, L2.start, List.map_cons, List.map_nil, List.length_cons, List.length_nil, List.replicate, List.cons_append, List.nil_append, List.append_nil, List.getElem?_cons_zero, List.getElem?_cons_succ, List.set_cons_zero, List.set_cons_succ, Nat.reduceAdd, Nat.reduceSub, Option.some.injEq, exists_eq_left', exists_eq_left, V.int.injEq, V.bl.injEq, V.str.injEq, V.ref.injEq, List.cons.injEq, and_true, true_and, and_assoc, reduceCtorEq, false_and, exists_false, or_false, false_or, exists_and_left, exists_const, scal, Int.reduceLT, Int.reduceLE, Int.reduceSub, Int.reduceAdd, Int.reduceNeg, if_true, if_false, rIsE]
      exact ⟨cx.NotOrders, rfl, T.x_NotOrders.e, _, fun u r => r, _, T.kit_NotOrders_TooLarge, iteF ⟨eL, s1⟩⟩
    rintro σ H5 ⟨rfl, eL, s1⟩
    refine ⟨fun σ H' => False, ?_, fun σ H' z => False.elim z⟩
    simp only [tSeq, tIfS, tOr, tAnd, tB, tTest, tCB, tCons, tVar, tC, tNil, tNot, tNotV, tRet, tRetN, tNext, tBreak, tOrV, tAndV, tOp, tUn, rEq, rNe, tChain, rI0, rI, rU, tAsg, gName, tDrop, tAug, ipI, tIf, tCall, tCallS, tLst, tTup, tBM, tBM0, rAppend, rExtend, rPop, rReverse, tyV, rIxL, rIxT, rIxS, rIsB, rNotB, L2.start, List.map_cons, List.map_nil, List.length_cons, List.length_nil, List.replicate, List.cons_append, List.nil_append, List.append_nil, List.getElem?_cons_zero, List.getElem?_cons_succ, List.set_cons_zero, List.set_cons_succ, Nat.reduceAdd, Nat.reduceSub, Option.some.injEq, exists_eq_left', exists_eq_left, V.int.injEq, V.bl.injEq, V.str.injEq, V.ref.injEq, List.cons.injEq, and_true, true_and, and_assoc, reduceCtorEq, false_and, exists_false, or_false, false_or, exists_and_left, exists_const, scal, Int.reduceLT, Int.reduceLE, Int.reduceSub, Int.reduceAdd, Int.reduceNeg, if_true, if_false, rIsE]
    refine ⟨_, .inl (SqL.of eL), iteT ?_⟩
    exact ⟨cx.NotOrders, rfl, T.x_NotOrders.e, _, fun u r => r, _, T.kit_NotOrders_FoldError, iteT ⟨_, SqL.of eL, _, rfl, q _ s1⟩⟩
  · refine ⟨fun σ H' => σ = [some (.ref a), some (.ref L)] ∧ H' L = some (.lst []) ∧ Same H H', ?_, ?_⟩
    · simp only [tSeq, tIfS, tOr, tAnd, tB, tTest, tCB, tCons, tVar, tC, tNil, tNot, tNotV, tRet, tRetN, tNext, tBreak, tOrV, tAndV, tOp, tUn, rEq, rNe, tChain, rI0, rI, rU, tAsg, gName, tDrop, tAug, ipI, tIf, tCall, tCallS, tLst, tTup, tBM, tBM0, rAppend, rExtend, rPop, rReverse, tyV, rIxL, rIxT, rIxS, rIsB, rNotB, L2.start, List.map_cons, List.map_nil, List.length_cons, List.length_nil, List.replicate, List.cons_append, List.nil_append, List.append_nil, List.getElem?_cons_zero, List.getElem?_cons_succ, List.set_cons_zero, List.set_cons_succ, Nat.reduceAdd, Nat.reduceSub, Option.some.injEq, exists_eq_left', exists_eq_left, V.int.injEq, V.bl.injEq, V.str.injEq, V.ref.injEq, List.cons.injEq, and_true, true_and, and_assoc, reduceCtorEq, false_and, exists_false, or_false, false_or, exists_and_left, exists_const, scal, Int.reduceLT, Int.reduceLE, Int.reduceSub, Int.reduceAdd, Int.reduceNeg, if_true, if_false, rIsE]
      exact ⟨cx.NotWord, rfl, T.x_NotWord.e, _, fun u r => r, _, T.kit_NotWord_NotOrders, iteF ⟨eL, s1⟩⟩
    rintro σ H2 ⟨rfl, eL, s1⟩
    refine ⟨fun σ H' => σ = [some (.ref a), some (.ref L)] ∧ H' L = some (.lst [V.str "word"]) ∧ Same H H', ?_, ?_⟩
    · simp only [tSeq, tIfS, tOr, tAnd, tB, tTest, tCB, tCons, tVar, tC, tNil, tNot, tNotV, tRet, tRetN, tNext, tBreak, tOrV, tAndV, tOp, tUn, rEq, rNe, tChain, rI0, rI, rU, tAsg, gName, tDrop, tAug, ipI, tIf, tCall, tCallS, tLst, tTup, tBM, tBM0, rAppend, rExtend, rPop, rReverse, tyV, rIxL, rIxT, rIxS, rIsB, rNotB, L2.start, List.map_cons, List.map_nil, List.length_cons, List.length_nil, List.replicate, List.cons_append, List.nil_append, List.append_nil, List.getElem?_cons_zero, List.getElem?_cons_succ, List.set_cons_zero, List.set_cons_succ, Nat.reduceAdd, Nat.reduceSub, Option.some.injEq, exists_eq_left', exists_eq_left, V.int.injEq, V.bl.injEq, V.str.injEq, V.ref.injEq, List.cons.injEq, and_true, true_and, and_assoc, reduceCtorEq, false_and, exists_false, or_false, false_or, exists_and_left, exists_const, scal, Int.reduceLT, Int.reduceLE, Int.reduceSub, Int.reduceAdd, Int.reduceNeg, if_true, if_false, rIsE]
      refine ⟨cx.NotWord, rfl, T.x_NotWord.e, _, fun u r => r, _, T.kit_NotWord_NotWord, iteT ?_⟩
      exact ⟨.inl ⟨_, SqL.of eL⟩, _, eL, by decide, upd_same, fun b u e => by rw [upd_ne (fun z => by rw [z, hL] at e; cases e)]; exact s1 b u e⟩
    rintro σ H3 ⟨rfl, eL, s1⟩
    refine ⟨fun σ H' => σ = [some (.ref a), some (.ref L)] ∧ H' L = some (.lst [V.str "word"]) ∧ Same H H', ?_, ?_⟩
    · simp only [tSeq, tIfS, tOr, tAnd, tB, tTest, tCB, tCons, tVar, tC, tNil, tNot, tNotV, tRet, tRetN, tNext, tBreak, tOrV, tAndV, tOp, tUn, rEq, rNe, tChain, rI0, rI, rU, tAsg, gName, tDrop, tAug, ipI, tIf, tCall, tCallS, tLst, tTup, tBM, tBM0, rAppend, rExtend, rPop, rReverse, tyV, rIxL, rIxT, rIxS, rIsB, rNotB, L2.start, List.map_cons, List.map_nil, List.length_cons, List.length_nil, List.replicate, List.cons_append, List.nil_append, List.append_nil, List.getElem?_cons_zero, List.getElem?_cons_succ, List.set_cons_zero, List.set_cons_succ, Nat.reduceAdd, Nat.reduceSub, Option.some.injEq, exists_eq_left', exists_eq_left, V.int.injEq, V.bl.injEq, V.str.injEq, V.ref.injEq, List.cons.injEq, and_true, true_and, and_assoc, reduceCtorEq, false_and, exists_false, or_false, false_or, exists_and_left, exists_const, scal, Int.reduceLT, Int.reduceLE, Int.reduceSub, Int.reduceAdd, Int.reduceNeg, if_true, if_false, rIsE]
      exact ⟨cx.NotWord, rfl, T.x_NotWord.e, _, fun u r => r, _, T.kit_NotWord_NoAnswer, iteF ⟨eL, s1⟩⟩
    rintro σ H4 ⟨rfl, eL, s1⟩
    refine ⟨fun σ H' => σ = [some (.ref a), some (.ref L)] ∧ H' L = some (.lst [V.str "word"]) ∧ Same H H', ?_, ?_⟩
    · simp only [tSeq, tIfS, tOr, tAnd, tB, tTest, tCB, tCons, tVar, tC, tNil, tNot, tNotV, tRet, tRetN, tNext, tBreak, tOrV, tAndV, tOp, tUn, rEq, rNe, tChain, rI0, rI, rU, tAsg, gName, tDrop, tAug, ipI, tIf, tCall, tCallS, tLst, tTup, tBM, tBM0, rAppend, rExtend, rPop, rReverse, tyV, rIxL, rIxT, rIxS, rIsB, rNotB, L2.start, List.map_cons, List.map_nil, List.length_cons, List.length_nil, List.replicate, List.cons_append, List.nil_append, List.append_nil, List.getElem?_cons_zero, List.getElem?_cons_succ, List.set_cons_zero, List.set_cons_succ, Nat.reduceAdd, Nat.reduceSub, Option.some.injEq, exists_eq_left', exists_eq_left, V.int.injEq, V.bl.injEq, V.str.injEq, V.ref.injEq, List.cons.injEq, and_true, true_and, and_assoc, reduceCtorEq, false_and, exists_false, or_false, false_or, exists_and_left, exists_const, scal, Int.reduceLT, Int.reduceLE, Int.reduceSub, Int.reduceAdd, Int.reduceNeg, if_true, if_false, rIsE]
      exact ⟨cx.NotWord, rfl, T.x_NotWord.e, _, fun u r => r, _, T.kit_NotWord_TooLarge, iteF ⟨eL, s1⟩⟩
    rintro σ H5 ⟨rfl, eL, s1⟩
    refine ⟨fun σ H' => False, ?_, fun σ H' z => False.elim z⟩
    simp only [tSeq, tIfS, tOr, tAnd, tB, tTest, tCB, tCons, tVar, tC, tNil, tNot, tNotV, tRet, tRetN, tNext, tBreak, tOrV, tAndV, tOp, tUn, rEq, rNe, tChain, rI0, rI, rU, tAsg, gName, tDrop, tAug, ipI, tIf, tCall, tCallS, tLst, tTup, tBM, tBM0, rAppend, rExtend, rPop, rReverse, tyV, rIxL, rIxT, rIxS, rIsB, rNotB, L2.start, List.map_cons, List.map_nil, List.length_cons, List.length_nil, List.replicate, List.cons_append, List.nil_append, List.append_nil, List.getElem?_cons_zero, List.getElem?_cons_succ, List.set_cons_zero, List.set_cons_succ, Nat.reduceAdd, Nat.reduceSub, Option.some.injEq, exists_eq_left', exists_eq_left, V.int.injEq, V.bl.injEq, V.str.injEq, V.ref.injEq, List.cons.injEq, and_true, true_and, and_assoc, reduceCtorEq, false_and, exists_false, or_false, false_or, exists_and_left, exists_const, scal, Int.reduceLT, Int.reduceLE, Int.reduceSub, Int.reduceAdd, Int.reduceNeg, if_true, if_false, rIsE]
    refine ⟨_, .inl (SqL.of eL), iteT ?_⟩
    exact ⟨cx.NotWord, rfl, T.x_NotWord.e, _, fun u r => r, _, T.kit_NotWord_FoldError, iteT ⟨_, SqL.of eL, _, rfl, q _ s1⟩⟩
  · refine ⟨fun σ H' => σ = [some (.ref a), some (.ref L)] ∧ H' L = some (.lst []) ∧ Same H H', ?_, ?_⟩
    · simp only [tSeq, tIfS, tOr, tAnd, tB, tTest, tCB, tCons, tVar, tC, tNil, tNot, tNotV, tRet, tRetN, tNext, tBreak, tOrV, tAndV, tOp, tUn, rEq, rNe, tChain, rI0, rI, rU, tAsg, gName, tDrop, tAug, ipI, tIf, tCall, tCallS, tLst, tTup, tBM, tBM0, rAppend, rExtend, rPop, rReverse, tyV, rIxL, rIxT, rIxS, rIsB, rNotB, L2.start, List.map_cons, List.map_nil, List.length_cons, List.length_nil, List.replicate, List.cons_append, List.nil_append, List.append_nil, List.getElem?_cons_zero, List.getElem?_cons_succ, List.set_cons_zero, List.set_cons_succ, Nat.reduceAdd, Nat.reduceSub, Option.some.injEq, exists_eq_left', exists_eq_left, V.int.injEq, V.bl.injEq, V.str.injEq, V.ref.injEq, List.cons.injEq, and_true, true_and, and_assoc, reduceCtorEq, false_and, exists_false, or_false, false_or, exists_and_left, exists_const, scal, Int.reduceLT, Int.reduceLE, Int.reduceSub, Int.reduceAdd, Int.reduceNeg, if_true, if_false, rIsE]
      exact ⟨cx.NoAnswer, rfl, T.x_NoAnswer.e, _, fun u r => r, _, T.kit_NoAnswer_NotOrders, iteF ⟨eL, s1⟩⟩
    rintro σ H2 ⟨rfl, eL, s1⟩
    refine ⟨fun σ H' => σ = [some (.ref a), some (.ref L)] ∧ H' L = some (.lst []) ∧ Same H H', ?_, ?_⟩
    · simp only [tSeq, tIfS, tOr, tAnd, tB, tTest, tCB, tCons, tVar, tC, tNil, tNot, tNotV, tRet, tRetN, tNext, tBreak, tOrV, tAndV, tOp, tUn, rEq, rNe, tChain, rI0, rI, rU, tAsg, gName, tDrop, tAug, ipI, tIf, tCall, tCallS, tLst, tTup, tBM, tBM0, rAppend, rExtend, rPop, rReverse, tyV, rIxL, rIxT, rIxS, rIsB, rNotB, L2.start, List.map_cons, List.map_nil, List.length_cons, List.length_nil, List.replicate, List.cons_append, List.nil_append, List.append_nil, List.getElem?_cons_zero, List.getElem?_cons_succ, List.set_cons_zero, List.set_cons_succ, Nat.reduceAdd, Nat.reduceSub, Option.some.injEq, exists_eq_left', exists_eq_left, V.int.injEq, V.bl.injEq, V.str.injEq, V.ref.injEq, List.cons.injEq, and_true, true_and, and_assoc, reduceCtorEq, false_and, exists_false, or_false, false_or, exists_and_left, exists_const, scal, Int.reduceLT, Int.reduceLE, Int.reduceSub, Int.reduceAdd, Int.reduceNeg, if_true, if_false, rIsE]
      exact ⟨cx.NoAnswer, rfl, T.x_NoAnswer.e, _, fun u r => r, _, T.kit_NoAnswer_NotWord, iteF ⟨eL, s1⟩⟩
    rintro σ H3 ⟨rfl, eL, s1⟩
    refine ⟨fun σ H' => σ = [some (.ref a), some (.ref L)] ∧ H' L = some (.lst [V.str "answer"]) ∧ Same H H', ?_, ?_⟩
    · simp only [tSeq, tIfS, tOr, tAnd, tB, tTest, tCB, tCons, tVar, tC, tNil, tNot, tNotV, tRet, tRetN, tNext, tBreak, tOrV, tAndV, tOp, tUn, rEq, rNe, tChain, rI0, rI, rU, tAsg, gName, tDrop, tAug, ipI, tIf, tCall, tCallS, tLst, tTup, tBM, tBM0, rAppend, rExtend, rPop, rReverse, tyV, rIxL, rIxT, rIxS, rIsB, rNotB, L2.start, List.map_cons, List.map_nil, List.length_cons, List.length_nil, List.replicate, List.cons_append, List.nil_append, List.append_nil, List.getElem?_cons_zero, List.getElem?_cons_succ, List.set_cons_zero, List.set_cons_succ, Nat.reduceAdd, Nat.reduceSub, Option.some.injEq, exists_eq_left', exists_eq_left, V.int.injEq, V.bl.injEq, V.str.injEq, V.ref.injEq, List.cons.injEq, and_true, true_and, and_assoc, reduceCtorEq, false_and, exists_false, or_false, false_or, exists_and_left, exists_const, scal, Int.reduceLT, Int.reduceLE, Int.reduceSub, Int.reduceAdd, Int.reduceNeg, if_true, if_false, rIsE]
      refine ⟨cx.NoAnswer, rfl, T.x_NoAnswer.e, _, fun u r => r, _, T.kit_NoAnswer_NoAnswer, iteT ?_⟩
      exact ⟨.inl ⟨_, SqL.of eL⟩, _, eL, by decide, upd_same, fun b u e => by rw [upd_ne (fun z => by rw [z, hL] at e; cases e)]; exact s1 b u e⟩
    rintro σ H4 ⟨rfl, eL, s1⟩
    refine ⟨fun σ H' => σ = [some (.ref a), some (.ref L)] ∧ H' L = some (.lst [V.str "answer"]) ∧ Same H H', ?_, ?_⟩
    · simp only [tSeq, tIfS, tOr, tAnd, tB, tTest, tCB, tCons, tVar, tC, tNil, tNot, tNotV, tRet, tRetN, tNext, tBreak, tOrV, tAndV, tOp, tUn, rEq, rNe, tChain, rI0, rI, rU, tAsg, gName, tDrop, tAug, ipI, tIf, tCall, tCallS, tLst, tTup, tBM, tBM0, rAppend, rExtend, rPop, rReverse, tyV, rIxL, rIxT, rIxS, rIsB, rNotB, L2.start, List.map_cons, List.map_nil, List.length_cons, List.length_nil, List.replicate, List.cons_append, List.nil_append, List.append_nil, List.getElem?_cons_zero, List.getElem?_cons_succ, List.set_cons_zero, List.set_cons_succ, Nat.reduceAdd, Nat.reduceSub, Option.some.injEq, exists_eq_left', exists_eq_left, V.int.injEq, V.bl.injEq, V.str.injEq, V.ref.injEq, List.cons.injEq, and_true, true_and, and_assoc, reduceCtorEq, false_and, exists_false, or_false, false_or, exists_and_left, exists_const, scal, Int.reduceLT, Int.reduceLE, Int.reduceSub, Int.reduceAdd, Int.reduceNeg, if_true, if_false, rIsE]
      exact ⟨cx.NoAnswer, rfl, T.x_NoAnswer.e, _, fun u r => r, _, T.kit_NoAnswer_TooLarge, iteF ⟨eL, s1⟩⟩
    rintro σ H5 ⟨rfl, eL, s1⟩
    refine ⟨fun σ H' => False, ?_, fun σ H' z => False.elim z⟩
    simp only [tSeq, tIfS, tOr, tAnd, tB, tTest, tCB, tCons, tVar, tC, tNil, tNot, tNotV, tRet, tRetN, tNext, tBreak, tOrV, tAndV, tOp, tUn, rEq, rNe, tChain, rI0, rI, rU, tAsg, gName, tDrop, tAug, ipI, tIf, tCall, tCallS, tLst, tTup, tBM, tBM0, rAppend, rExtend, rPop, rReverse, tyV, rIxL, rIxT, rIxS, rIsB, rNotB, L2.start, List.map_cons, List.map_nil, List.length_cons, List.length_nil, List.replicate, List.cons_append, List.nil_append, List.append_nil, List.getElem?_cons_zero, List.getElem?_cons_succ, List.set_cons_zero, List.set_cons_succ, Nat.reduceAdd, Nat.reduceSub, Option.some.injEq, exists_eq_left', exists_eq_left, V.int.injEq, V.bl.injEq, V.str.injEq, V.ref.injEq, List.cons.injEq, and_true, true_and, and_assoc, reduceCtorEq, false_and, exists_false, or_false, false_or, exists_and_left, exists_const, scal, Int.reduceLT, Int.reduceLE, Int.reduceSub, Int.reduceAdd, Int.reduceNeg, if_true, if_false, rIsE]
    refine ⟨_, .inl (SqL.of eL), iteT ?_⟩
    exact ⟨cx.NoAnswer, rfl, T.x_NoAnswer.e, _, fun u r => r, _, T.kit_NoAnswer_FoldError, iteT ⟨_, SqL.of eL, _, rfl, q _ s1⟩⟩

/-- the order of words: shorter ones first, those of one length as texts -/
def ole (u v : W) : Prop := u.length < v.length ∨ (u.length = v.length ∧ lx u v)
theorem ole_antisymm {u v : W} (h : ole u v) (k : ole v u) : u = v := by
  rcases h with h | ⟨e, h⟩
  · rcases k with k | ⟨e, _⟩ <;> omega
  · rcases k with k | ⟨_, k⟩
    · omega
    · exact lx_antisymm e h k
theorem ole_uniq : ∀ {us vs : List W}, us.Perm vs → us.Pairwise ole → vs.Pairwise ole → us = vs
  | [], vs, h, _, _ => (List.Perm.nil_eq h)
  | u :: us, [], h, _, _ => absurd h.length_eq (by simp)
  | u :: us, v :: vs, h, hu, hv => by
    have e : u = v := by
      rcases List.mem_cons.mp (h.mem_iff.mp (List.mem_cons_self (a := u) (l := us))) with e | m1
      · exact e
      · rcases List.mem_cons.mp (h.mem_iff.mpr (List.mem_cons_self (a := v) (l := vs))) with e | m2
        · exact e.symm
        · exact ole_antisymm ((List.pairwise_cons.mp hu).1 v m2) ((List.pairwise_cons.mp hv).1 u m1)
    subst e
    rw [ole_uniq h.cons_inv (List.pairwise_cons.mp hu).2 (List.pairwise_cons.mp hv).2]
/-- by lengths, and within each length -/
theorem pw_classes {R : Str → Str → Prop} : ∀ {l : List Str}, l.Pairwise (fun x y => x.length ≤ y.length) → (∀ n : Nat, (l.filter fun x => x.length == n).Pairwise R) → l.Pairwise fun x y => x.length < y.length ∨ (x.length = y.length ∧ R x y)
  | [], _, _ => .nil
  | x :: l, h, c => by
    obtain ⟨h1, h2⟩ := List.pairwise_cons.mp h
    refine List.pairwise_cons.mpr ⟨fun y hy => ?_, pw_classes h2 fun n => ?_⟩
    · rcases Nat.lt_or_ge x.length y.length with q | q
      · exact .inl q
      · have e : x.length = y.length := Nat.le_antisymm (h1 y hy) q
        have k := c x.length
        rw [List.filter_cons, if_pos (beq_self_eq_true _)] at k
        exact .inr ⟨e, (List.pairwise_cons.mp k).1 y (List.mem_filter.mpr ⟨hy, by rw [e]; exact beq_self_eq_true _⟩)⟩
    · have k := c n
      rw [List.filter_cons] at k
      split at k
      · exact (List.pairwise_cons.mp k).2
      · exact k
theorem rising_pw : ∀ {l : List Str} {p : Str}, risingS p l = true → (p :: l).Pairwise fun x y => ¬ y.cps.toList < x.cps.toList
  | [], p, _ => List.pairwise_singleton _ _
  | x :: l, p, h => by
    have h' : (!ltCps x.cps.toList p.cps.toList && risingS x l) = true := h
    rw [Bool.and_eq_true, Bool.not_eq_true', ltCps_eq, decide_eq_false_iff_not] at h'
    have ih := rising_pw h'.2
    refine List.pairwise_cons.mpr ⟨fun y hy => ?_, ih⟩
    rcases List.mem_cons.mp hy with rfl | hy
    · exact h'.1
    · have h2 := (List.pairwise_cons.mp ih).1 y hy
      exact List.not_lt.mpr (List.le_trans (List.not_lt.mp h'.1) (List.not_lt.mp h2))
theorem sorted_pw {l : List Str} (h : sortedS l = true) : l.Pairwise fun x y => ¬ y.cps.toList < x.cps.toList := by
  cases l with
  | nil => exact .nil
  | cons x l => exact rising_pw h
/-- words of a list that is in order by lengths, and by texts within each length -/
theorem ole_of {vs : List W} (h1 : (vs.map wS).Pairwise fun x y => x.length ≤ y.length) (h2 : ∀ n : Nat, ((vs.map wS).filter fun x => x.length == n).Pairwise fun x y => ¬ y.cps.toList < x.cps.toList) : vs.Pairwise ole := by
  have h := List.pairwise_map.mp (pw_classes h1 h2)
  refine h.imp fun {u v} c => ?_
  rw [wS_len, wS_len] at c
  rcases c with c | ⟨c, d⟩
  · exact .inl c
  · exact .inr ⟨c, lx_lt c d⟩
def spInOrder (K : PySem.W.Frag) : Sp := fun vs H Q _ => ∃ (l : Addr) (us : List W), vs = [.ref l] ∧ SqL K H l ((us.map wS).map V.str) ∧ (∀ u ∈ us, u.length ≤ 500) ∧
  ∀ (ys : List W) p H', ys.Perm us → ys.Pairwise ole → H p = none → H' p = some (.lst ((ys.map wS).map V.str)) → Same H H' → Q (.ref p) H'
theorem ok_in_order (T : Txt K mg cx) : FK.Has P w K mg base CX0 1 "in_order" ["words"] (spInOrder K) := by
  refine T.d_in_order.ok sc_in_order (fun vs H Q E h => ?_) (fun f cdv A outer s H vs Q E hr h => ?_)
  · obtain ⟨l, us, rfl, _⟩ := h
    rfl
  · obtain ⟨l, us, rfl, hl, hb, q⟩ := h
    refine ⟨_, (pss_one (ps_ret (FK.pe_sortLen (pa_cons (pe_callB FK.cr_sortT (by rfl) T.n_sorted (by decide +kernel) (pa_cons (pv 0) pa_nil)) pa_nil) (by rfl) T.n_sorted (by rfl) T.n_len))), ?_⟩
    simp only [tSeq, tIfS, tOr, tAnd, tB, tTest, tCB, tCons, tVar, tC, tNil, tNot, tNotV, tRet, tRetN, tNext, tBreak, tOrV, tAndV, tOp, tUn, rEq, rNe, tChain, rI0, rI, rU, tAsg, gName, tDrop, tAug, ipI, tIf, tCall, tCallS, tLst, tTup, tBM, tBM0, rAppend, rExtend, rPop, rReverse, tyV, rIxL, rIxT, rIxS, rIsB, rNotB, L2.start, List.map_cons, List.map_nil, List.length_cons, List.length_nil, List.replicate, List.cons_append, List.nil_append, List.append_nil, List.getElem?_cons_zero, List.getElem?_cons_succ, List.set_cons_zero, List.set_cons_succ, Nat.reduceAdd, Nat.reduceSub, Option.some.injEq, exists_eq_left', exists_eq_left, V.int.injEq, V.bl.injEq, V.str.injEq, V.ref.injEq, List.cons.injEq, and_true, true_and, and_assoc, reduceCtorEq, false_and, exists_false, or_false, false_or, exists_and_left, exists_const, scal, Int.reduceLT, Int.reduceLE, Int.reduceSub, Int.reduceAdd, Int.reduceNeg, if_true, if_false]
    refine ⟨l, us.map wS, rfl, hl, fun zs p pm srt hp => ⟨p, zs, rfl, SqL.of upd_same, fun x hx => ?_, fun ys p2 pm2 pw2 fl hp2 => ?_⟩⟩
    · obtain ⟨u, hu, rfl⟩ := List.mem_map.mp (pm.mem_iff.mp hx)
      rw [wS_len]
      exact zl _ (by have := hb u hu; omega)
    · obtain ⟨vs, p3, rfl⟩ := L2.perm_lift wS (pm2.trans pm) us rfl
      have hn : H p2 = none := by
        by_cases c : p2 = p
        · subst c
          exact hp
        · rw [upd_ne c] at hp2
          exact hp2
      refine q vs p2 _ p3 (ole_of pw2 fun n => ?_) hn upd_same ((FK.same_new hp).trans (FK.same_new hp2))
      rw [fl n]
      exact (sorted_pw srt).filter _

def spWayB (K : PySem.W.Frag) (C : Addr) : Sp := fun vs H Q _ => ∃ (f o d : Addr) (a b c : Nat) (u v : W), vs = [.ref f, .str (wS u), .str (wS v)] ∧ FlAt K C H f o d a b c ∧ u.length + v.length ≤ 400 ∧
  ∀ H', FlAt K C H' f o d a b c → FK.But d H H' → Q (.str (wS (nfw a b c (u.reverse ++ v)))) H'
theorem ok_way_between (T : Txt K mg cx) : FK.Has P w K mg base CX0 6 "way_between" ["floor", "one", "other"] (spWayB K cx.Floor) := by
  have H_Floor_normal := ok_Floor_normal (P := P) (w := w) (mg := mg) (base := base) T
  refine T.d_way_between.ok sc_way_between (fun vs H Q E h => ?_) (fun f cdv A outer s H vs Q E hr h => ?_)
  · obtain ⟨f, o, d, a, b, c, u, v, rfl, _⟩ := h
    rfl
  · obtain ⟨f, o, d, a, b, c, u, v, rfl, F, hl, q⟩ := h
    refine ⟨_, (pss_one (ps_ret (FK.pe_m (E := E0) (pv 0) T.cl_Floor H_Floor_normal (hr.mono (by decide)) pass0 (pa_cons (pe_op op_add_str (FK.pe_revS (pv 1)) (pv 2)) pa_nil)))), ?_⟩
    simp only [tSeq, tIfS, tOr, tAnd, tB, tTest, tCB, tCons, tVar, tC, tNil, tNot, tNotV, tRet, tRetN, tNext, tBreak, tOrV, tAndV, tOp, tUn, rEq, rNe, tChain, rI0, rI, rU, tAsg, gName, tDrop, tAug, ipI, tIf, tCall, tCallS, tLst, tTup, tBM, tBM0, rAppend, rExtend, rPop, rReverse, tyV, rIxL, rIxT, rIxS, rIsB, rNotB, L2.start, List.map_cons, List.map_nil, List.length_cons, List.length_nil, List.replicate, List.cons_append, List.nil_append, List.append_nil, List.getElem?_cons_zero, List.getElem?_cons_succ, List.set_cons_zero, List.set_cons_succ, Nat.reduceAdd, Nat.reduceSub, Option.some.injEq, exists_eq_left', exists_eq_left, V.int.injEq, V.bl.injEq, V.str.injEq, V.ref.injEq, List.cons.injEq, and_true, true_and, and_assoc, reduceCtorEq, false_and, exists_false, or_false, false_or, exists_and_left, exists_const, scal, Int.reduceLT, Int.reduceLE, Int.reduceSub, Int.reduceAdd, Int.reduceNeg, if_true, if_false, tMeth, FK.tRevS]
    obtain ⟨dx, e1⟩ := F.ob
    refine ⟨dx, _, e1, fldsF_no _ _ (by decide +kernel) (by decide +kernel), zw (by omega), ?_⟩
    rw [wS_rev, wS_app]
    exact ⟨by rw [wS_len, wS_len]; exact zl _ (by rw [List.length_reverse]; omega), f, o, d, a, b, c, u.reverse ++ v, rfl, F, by rw [List.length_append, List.length_reverse]; omega, fun H5 F5 b5 => q H5 F5 b5⟩

def spFirstRoot (K : PySem.W.Frag) : Sp := fun vs H Q _ => ∃ (sc : Addr) (a b c s : Nat) (l : Fin 3), vs = [.ref sc, .str (wS [l])] ∧ ScAt K H sc a b c (bitsOf s) ∧ s < 8 ∧
  ∀ p H', Same H H' → H p = none → H' p = some (.tup (v3i fun k => if k = l then TT s else 0)) → Q (.ref p) H'
theorem ok_first_root (T : Txt K mg cx) : FK.Has P w K mg base CX0 1 "first_root" ["scale", "letter"] (spFirstRoot K) := by
  refine T.d_first_root.ok sc_first_root (fun vs H Q E h => ?_) (fun f cdv A outer s H vs Q E hr h => ?_)
  · obtain ⟨o, a, b, c, s, l, rfl, _⟩ := h
    rfl
  · obtain ⟨o, a, b, c, s, l, rfl, ⟨bt, h1, h2⟩, hs, q⟩ := h
    refine ⟨_, (pss_cons (ps_set (i := 2) sc_first_root.nd rfl (Or.inr rfl) (by exact (pe_op op_shlN pe_int (pe_ix (r := rIxT K) ix_tup (pv 0) pe_int (fun _ _ => rfl)))))
  (pss_one (ps_ret (pe_callTy call_tuple_of (by rfl) T.n_tuple (by decide +kernel) (pa_cons (pe_lc (own := [("other", 3)]) (g := gName 3) (tt := tYes) rfl sc_first_root.nd (pi_str (pe_glob (v := .str "012") rfl T.c_LETTERS ⟨_, rfl⟩)) (blkOk_by (own := [("other", 3)]) (N := ["scale", "letter", "one", "other"]) (sc := defScope s_first_root) (by decide +kernel)) (fun _ _ _ _ _ => (pg_name (i := 3) sc_first_root.nd rfl (Or.inl rfl))) (fun _ _ _ _ _ => pts_nil) (fun _ _ _ _ _ => (pe_ifExp (pt_cmpR op_eq (pv 1) (pv 3) (nomark _)) (pv 2) pe_int))) pa_nil))))), ?_⟩
    simp only [tSeq, tIfS, tOr, tAnd, tB, tTest, tCB, tCons, tVar, tC, tNil, tNot, tNotV, tRet, tRetN, tNext, tBreak, tOrV, tAndV, tOp, tUn, rEq, rNe, tChain, rI0, rI, rU, tAsg, gName, tDrop, tAug, ipI, tIf, tCall, tCallS, tLst, tTup, tBM, tBM0, rAppend, rExtend, rPop, rReverse, tyV, rIxL, rIxT, rIxS, rIsB, rNotB, L2.start, List.map_cons, List.map_nil, List.length_cons, List.length_nil, List.replicate, List.cons_append, List.nil_append, List.append_nil, List.getElem?_cons_zero, List.getElem?_cons_succ, List.set_cons_zero, List.set_cons_succ, Nat.reduceAdd, Nat.reduceSub, Option.some.injEq, exists_eq_left', exists_eq_left, V.int.injEq, V.bl.injEq, V.str.injEq, V.ref.injEq, List.cons.injEq, and_true, true_and, and_assoc, reduceCtorEq, false_and, exists_false, or_false, false_or, exists_and_left, exists_const, scal, Int.reduceLT, Int.reduceLE, Int.reduceSub, Int.reduceAdd, Int.reduceNeg, if_true, if_false]
    refine ⟨_, SqT.of h1, _, rfl, bitsOf s, rfl, cshl (x := 1) (k := 1) (by decide) (by omega) (by unfold bitsOf; omega), ?_⟩
    rw [show (1 : Int) * 2 ^ bitsOf s = TT s by rw [Int.one_mul, TT_pow]]
    refine FK.rd_lc_pure (J := Its "012") (H1 := H) (v3i fun k => if k = l then TT s else 0) (fun R r => ⟨"012", rfl, r⟩) (show Walk (Its "012") 3 _ _ from (show ("012" : Str).cps.size = 3 by decide +kernel) ▸ walk_str (z := "012")) (fun _ _ _ => trivial) (by show 3 < 16777216; decide) (fun _ => rfl) ?_ ?_ ?_
    · rintro D j x z H' H'' R hD hz rfl ⟨rfl, ch, hc, rfl⟩ r
      obtain ⟨i, ei, ez⟩ : ∃ i : Fin 3, (⟨#[ch]⟩ : Str) = wS [i] ∧ z = .int (if i = l then TT s else 0) := by
        match j, hc, hz with
        | 0, hc, hz => cases hc; cases hz; exact ⟨0, rfl, rfl⟩
        | 1, hc, hz => cases hc; cases hz; exact ⟨1, rfl, rfl⟩
        | 2, hc, hz => cases hc; cases hz; exact ⟨2, rfl, rfl⟩
        | _ + 3, _, hz => simp [v3i] at hz
      rw [ei]
      subst ez
      simp only [tSeq, tIfS, tOr, tAnd, tB, tTest, tCB, tCons, tVar, tC, tNil, tNot, tNotV, tRet, tRetN, tNext, tBreak, tOrV, tAndV, tOp, tUn, rEq, rNe, tChain, rI0, rI, rU, tAsg, gName, tDrop, tAug, ipI, tIf, tCall, tCallS, tLst, tTup, tBM, tBM0, rAppend, rExtend, rPop, rReverse, tyV, rIxL, rIxT, rIxS, rIsB, rNotB, L2.start, List.map_cons, List.map_nil, List.length_cons, List.length_nil, List.replicate, List.cons_append, List.nil_append, List.append_nil, List.getElem?_cons_zero, List.getElem?_cons_succ, List.set_cons_zero, List.set_cons_succ, Nat.reduceAdd, Nat.reduceSub, Option.some.injEq, exists_eq_left', exists_eq_left, V.int.injEq, V.bl.injEq, V.str.injEq, V.ref.injEq, List.cons.injEq, and_true, true_and, and_assoc, reduceCtorEq, false_and, exists_false, or_false, false_or, exists_and_left, exists_const, scal, Int.reduceLT, Int.reduceLE, Int.reduceSub, Int.reduceAdd, Int.reduceNeg, if_true, if_false, wipe]
      by_cases c : i = l
      · subst c
        rw [if_pos rfl] at r
        exact iteT' (by simp) r
      · rw [if_neg c] at r
        refine iteF' (fun z' => c ?_) r
        have e2 := wS_inj (of_decide_eq_true z')
        injection e2 with e3 _
        exact e3.symm
    · intro D hD
      refine ⟨D, rfl, _, .inl ⟨SqL.of upd_same, fun p hp => q p _ ((FK.same_new hD).trans (FK.same_new hp)) ?_ upd_same⟩⟩
      exact back (FK.same_new hD) hp
    · rintro j H' x H'' ⟨rfl, _⟩
      rfl
theorem act_0 (x y z t : Int) (D : Fin 3 → Int) : ([.int ((x * D 1 + z * D 2) / t - D 0), .int (D 1), .int (D 2)] : List V) = v3i (actI (tri 0 x y z) t 0 D) := rfl
theorem act_1 (x y z t : Int) (D : Fin 3 → Int) : ([.int (D 0), .int ((x * D 0 + y * D 2) / t - D 1), .int (D 2)] : List V) = v3i (actI (tri 0 x y z) t 1 D) := rfl
theorem act_2 (x y z t : Int) (D : Fin 3 → Int) : ([.int (D 0), .int (D 1), .int ((z * D 0 + y * D 1) / t - D 2)] : List V) = v3i (actI (tri 0 x y z) t 2 D) := rfl
def spRootBehind (K : PySem.W.Frag) : Sp := fun vs H Q _ => ∃ (sc dp : Addr) (a b c s : Nat) (D : Fin 3 → Int) (i : Fin 3), vs = [.ref sc, .ref dp, .str (wS [i])] ∧ ScAt K H sc a b c (bitsOf s) ∧ s < 8 ∧ okOrd a ∧ okOrd b ∧ okOrd c ∧
  H dp = some (.tup (v3i D)) ∧ (∀ j, Sm (D j)) ∧ ∀ p H', Same H H' → H p = none → H' p = some (.tup (v3i (actI (bendT a b c (bitsOf s)) (TT s) i D))) → Q (.ref p) H'
theorem ok_root_behind (T : Txt K mg cx) : FK.Has P w K mg base CX0 1 "root_behind" ["scale", "root", "letter"] (spRootBehind K) := by
  refine T.d_root_behind.ok sc_root_behind (fun vs H Q E h => ?_) (fun f cdv A outer s H vs Q E hr h => ?_)
  · obtain ⟨sc, dp, a, b, c, s, D, i, rfl, _⟩ := h
    rfl
  · obtain ⟨sc, dp, a, b, c, s, D, i, rfl, ⟨bt, h1, h2⟩, hs, ha, hb, hc, hD, hl, q⟩ := h
    refine ⟨_, (pss_cons (ps_asg (pv 0) (pg_tup rfl (pgs_cons (pg_name (i := 3) sc_root_behind.nd rfl (Or.inl rfl)) (pgs_cons (pg_tup rfl (pgs_cons (pg_name (i := 7) sc_root_behind.nd rfl (Or.inl rfl)) (pgs_cons (pg_name (i := 8) sc_root_behind.nd rfl (Or.inl rfl)) (pgs_cons (pg_name (i := 9) sc_root_behind.nd rfl (Or.inl rfl)) pgs_nil)))) pgs_nil))))
  (pss_cons (ps_asg (pv 1) (pg_tup rfl (pgs_cons (pg_name (i := 4) sc_root_behind.nd rfl (Or.inl rfl)) (pgs_cons (pg_name (i := 5) sc_root_behind.nd rfl (Or.inl rfl)) (pgs_cons (pg_name (i := 6) sc_root_behind.nd rfl (Or.inl rfl)) pgs_nil)))))
  (pss_cons (ps_if (pt_cmpR op_eq (pv 2) pe_str (nomark _)) (pss_one (ps_ret (pe_tup (pa_cons (pe_op op_sub (pe_op op_shrN (pe_op op_add (pe_op op_mulW (pv 7) (pv 5)) (pe_op op_mulW (pv 9) (pv 6))) (pv 3)) (pv 4)) (pa_cons (pv 5) (pa_cons (pv 6) pa_nil)))))) pss_nil)
  (pss_cons (ps_if (pt_cmpR op_eq (pv 2) pe_str (nomark _)) (pss_one (ps_ret (pe_tup (pa_cons (pv 4) (pa_cons (pe_op op_sub (pe_op op_shrN (pe_op op_add (pe_op op_mulW (pv 7) (pv 4)) (pe_op op_mulW (pv 8) (pv 6))) (pv 3)) (pv 5)) (pa_cons (pv 6) pa_nil)))))) pss_nil)
  (pss_one (ps_ret (pe_tup (pa_cons (pv 4) (pa_cons (pv 5) (pa_cons (pe_op op_sub (pe_op op_shrN (pe_op op_add (pe_op op_mulW (pv 9) (pv 4)) (pe_op op_mulW (pv 8) (pv 5))) (pv 3)) (pv 6)) pa_nil)))))))))), ?_⟩
    simp only [tSeq, tIfS, tOr, tAnd, tB, tTest, tCB, tCons, tVar, tC, tNil, tNot, tNotV, tRet, tRetN, tNext, tBreak, tOrV, tAndV, tOp, tUn, rEq, rNe, tChain, rI0, rI, rU, tAsg, gName, tDrop, tAug, ipI, tIf, tCall, tCallS, tLst, tTup, tBM, tBM0, rAppend, rExtend, rPop, rReverse, tyV, rIxL, rIxT, rIxS, rIsB, rNotB, L2.start, List.map_cons, List.map_nil, List.length_cons, List.length_nil, List.replicate, List.cons_append, List.nil_append, List.append_nil, List.getElem?_cons_zero, List.getElem?_cons_succ, List.set_cons_zero, List.set_cons_succ, Nat.reduceAdd, Nat.reduceSub, Option.some.injEq, exists_eq_left', exists_eq_left, V.int.injEq, V.bl.injEq, V.str.injEq, V.ref.injEq, List.cons.injEq, and_true, true_and, and_assoc, reduceCtorEq, false_and, exists_false, or_false, false_or, exists_and_left, exists_const, scal, Int.reduceLT, Int.reduceLE, Int.reduceSub, Int.reduceAdd, Int.reduceNeg, if_true, if_false]
    refine ⟨sc, _, rfl, SqT.of h1, rfl, _, _, rfl, _, _, rfl, bt, _, rfl, SqT.of h2, rfl, _, _, rfl, _, _, rfl, _, _, rfl, rfl, rfl, ?_⟩
    simp only [tSeq, tIfS, tOr, tAnd, tB, tTest, tCB, tCons, tVar, tC, tNil, tNot, tNotV, tRet, tRetN, tNext, tBreak, tOrV, tAndV, tOp, tUn, rEq, rNe, tChain, rI0, rI, rU, tAsg, gName, tDrop, tAug, ipI, tIf, tCall, tCallS, tLst, tTup, tBM, tBM0, rAppend, rExtend, rPop, rReverse, tyV, rIxL, rIxT, rIxS, rIsB, rNotB, L2.start, List.map_cons, List.map_nil, List.length_cons, List.length_nil, List.replicate, List.cons_append, List.nil_append, List.append_nil, List.getElem?_cons_zero, List.getElem?_cons_succ, List.set_cons_zero, List.set_cons_succ, Nat.reduceAdd, Nat.reduceSub, Option.some.injEq, exists_eq_left', exists_eq_left, V.int.injEq, V.bl.injEq, V.str.injEq, V.ref.injEq, List.cons.injEq, and_true, true_and, and_assoc, reduceCtorEq, false_and, exists_false, or_false, false_or, exists_and_left, exists_const, scal, Int.reduceLT, Int.reduceLE, Int.reduceSub, Int.reduceAdd, Int.reduceNeg, if_true, if_false]
    refine ⟨dp, _, rfl, SqT.of hD, rfl, _, _, rfl, _, _, rfl, _, _, rfl, rfl, ?_⟩
    simp only [tSeq, tIfS, tOr, tAnd, tB, tTest, tCB, tCons, tVar, tC, tNil, tNot, tNotV, tRet, tRetN, tNext, tBreak, tOrV, tAndV, tOp, tUn, rEq, rNe, tChain, rI0, rI, rU, tAsg, gName, tDrop, tAug, ipI, tIf, tCall, tCallS, tLst, tTup, tBM, tBM0, rAppend, rExtend, rPop, rReverse, tyV, rIxL, rIxT, rIxS, rIsB, rNotB, L2.start, List.map_cons, List.map_nil, List.length_cons, List.length_nil, List.replicate, List.cons_append, List.nil_append, List.append_nil, List.getElem?_cons_zero, List.getElem?_cons_succ, List.set_cons_zero, List.set_cons_succ, Nat.reduceAdd, Nat.reduceSub, Option.some.injEq, exists_eq_left', exists_eq_left, V.int.injEq, V.bl.injEq, V.str.injEq, V.ref.injEq, List.cons.injEq, and_true, true_and, and_assoc, reduceCtorEq, false_and, exists_false, or_false, false_or, exists_and_left, exists_const, scal, Int.reduceLT, Int.reduceLE, Int.reduceSub, Int.reduceAdd, Int.reduceNeg, if_true, if_false]
    have sa := bend_small hs ha
    have sb := bend_small hs hb
    have sc' := bend_small hs hc
    rcases let3 i with ⟨e, rfl⟩ | ⟨e, rfl⟩ | ⟨e, rfl⟩
    · rw [e]
      refine iteT' (by decide +kernel) ⟨mulOk sa (hl 1), mulOk sc' (hl 2), bitsOf s, rfl, by decide, fun p hp => q p _ (FK.same_new hp) hp ?_⟩
      rw [upd_same, TT_pow]
      exact congrArg (fun l => some (HO.tup l)) (act_0 _ (bendF b (bitsOf s)) _ _ D)
    · rw [e]
      refine iteF' (by decide +kernel) (iteT' (by decide +kernel) ⟨mulOk sa (hl 0), mulOk sb (hl 2), bitsOf s, rfl, by decide, fun p hp => q p _ (FK.same_new hp) hp ?_⟩)
      rw [upd_same, TT_pow]
      exact congrArg (fun l => some (HO.tup l)) (act_1 _ _ (bendF c (bitsOf s)) _ D)
    · rw [e]
      refine iteF' (by decide +kernel) (iteF' (by decide +kernel) ⟨mulOk sc' (hl 0), mulOk sb (hl 1), bitsOf s, rfl, by decide, fun p hp => q p _ (FK.same_new hp) hp ?_⟩)
      rw [upd_same, TT_pow]
      exact congrArg (fun l => some (HO.tup l)) (act_2 (bendF a (bitsOf s)) _ _ _ D)
theorem two_abs {T M : Nat} (hT : 0 < T) {b1 b2 d1 d2 d : Int} (h1 : b1.natAbs ≤ 2 * T) (h2 : b2.natAbs ≤ 2 * T) (e1 : d1.natAbs ≤ M) (e2 : d2.natAbs ≤ M) (e : d.natAbs ≤ M) : ((b1 * d1 + b2 * d2) / (T : Int) - d).natAbs ≤ 8 * M := by
  have p1 : (b1 * d1).natAbs ≤ 2 * T * M := by rw [Int.natAbs_mul]; exact Nat.mul_le_mul h1 e1
  have p2 : (b2 * d2).natAbs ≤ 2 * T * M := by rw [Int.natAbs_mul]; exact Nat.mul_le_mul h2 e2
  have ez : ((2 * T * M : Nat) : Int) * 2 = (4 * (M : Int)) * (T : Int) := by
    rw [show 2 * T * M = 2 * (M * T) by rw [Nat.mul_assoc, Nat.mul_comm T M]]
    rw [Int.mul_assoc, ← Int.natCast_mul]
    omega
  have hT' : (0 : Int) < (T : Int) := by omega
  have lo : -(4 * (M : Int)) ≤ (b1 * d1 + b2 * d2) / (T : Int) := Int.le_ediv_of_mul_le hT' (by rw [Int.neg_mul]; omega)
  have hi : (b1 * d1 + b2 * d2) / (T : Int) ≤ 4 * (M : Int) := Int.ediv_le_of_le_mul hT' (by omega)
  omega
theorem root_abs {B : Fin 3 → Fin 3 → Int} {T : Nat} (hT : 0 < T) (hB : ∀ i j, i ≠ j → (B i j).natAbs ≤ 2 * T) (l : Fin 3) : ∀ (u : W) (j : Fin 3), (rootI B (T : Int) u l j).natAbs ≤ T * 8 ^ u.length
  | [], j => by
    show (if j = l then (T : Int) else 0).natAbs ≤ T * 8 ^ 0
    split <;> omega
  | i :: u, j => by
    have ih := root_abs hT hB l u
    have e : T * 8 ^ (i :: u).length = 8 * (T * 8 ^ u.length) := by
      rw [List.length_cons, Nat.pow_succ, Nat.mul_comm _ 8, ← Nat.mul_assoc, Nat.mul_comm T 8, Nat.mul_assoc]
    rw [e]
    show (actI B (T : Int) i (rootI B (T : Int) u l) j).natAbs ≤ _
    unfold actI
    split
    · rename_i c
      subst c
      unfold othI
      rcases three j with rfl | rfl | rfl
      · exact two_abs hT (hB 0 1 (by decide)) (hB 0 2 (by decide)) (ih 1) (ih 2) (ih 0)
      · exact two_abs hT (hB 1 0 (by decide)) (hB 1 2 (by decide)) (ih 0) (ih 2) (ih 1)
      · exact two_abs hT (hB 2 0 (by decide)) (hB 2 1 (by decide)) (ih 0) (ih 1) (ih 2)
    · have := ih j
      omega
/-- the last place whose rest has a root with a negative sum -/
def placeN (B : Fin 3 → Fin 3 → Int) (t : Int) (u : W) (l : Fin 3) : Nat → Int
  | 0 => -1
  | k + 1 => if sumI (rootI B t (u.drop k) l) < 0 then (k : Int) else placeN B t u l k
def place (B : Fin 3 → Fin 3 → Int) (t : Int) (u : W) (l : Fin 3) : Int := placeN B t u l u.length
def spPlace (K : PySem.W.Frag) : Sp := fun vs H Q _ => ∃ (sc : Addr) (a b c s : Nat) (u : W) (l : Fin 3), vs = [.ref sc, .str (wS u), .str (wS [l])] ∧ ScAt K H sc a b c (bitsOf s) ∧ s < 8 ∧ okOrd a ∧ okOrd b ∧ okOrd c ∧ u.length ≤ 100 ∧
  ∀ H', Same H H' → Q (.int (place (bendT a b c (bitsOf s)) (TT s) u l)) H'
theorem rootI_small {a b c s : Nat} (hs : s < 8) (ha : okOrd a) (hb : okOrd b) (hc : okOrd c) {u : W} (l : Fin 3) (hu : u.length ≤ 100) (j : Fin 3) : Sm (rootI (bendT a b c (bitsOf s)) (TT s) u l j) := by
  have h := root_abs (B := bendT a b c (bitsOf s)) (T := 2 ^ bitsOf s) (Nat.pow_pos (by decide)) (tri_abs (bend_abs hs ha) (bend_abs hs hb) (bend_abs hs hc)) l u j
  refine ⟨bitsOf s + 3 * u.length + 1, by unfold bitsOf; omega, by omega, ?_⟩
  have e : 2 ^ (bitsOf s + 3 * u.length + 1) = 2 * (2 ^ bitsOf s * 8 ^ u.length) := by
    rw [Nat.pow_succ, Nat.pow_add, Nat.pow_mul]
    rw [Nat.mul_comm]
  have p : 0 < 2 ^ bitsOf s * 8 ^ u.length := Nat.mul_pos (Nat.pow_pos (by decide)) (Nat.pow_pos (by decide))
  rw [e]
  show (rootI (bendT a b c (bitsOf s)) ((2 ^ bitsOf s : Nat) : Int) u l j).natAbs < _
  generalize 2 ^ bitsOf s * 8 ^ u.length = t at h p ⊢
  omega
theorem ok_place_crossing (T : Txt K mg cx) : FK.Has P w K mg base CX0 2 "place_crossing" ["scale", "word", "letter"] (spPlace K) := by
  have H_first_root := ok_first_root (P := P) (w := w) (base := base) T
  have H_root_behind := ok_root_behind (P := P) (w := w) (base := base) T
  refine T.d_place_crossing.ok sc_place_crossing (fun vs H Q E h => ?_) (fun f cdv A outer s H vs Q E hr h => ?_)
  · obtain ⟨sc, a, b, c, s, u, l, rfl, _⟩ := h
    rfl
  · obtain ⟨sc, a, b, c, s, u, l, rfl, hsc, hs, ha, hb, hc, hu, q⟩ := h
    refine ⟨_, (pss_cons (ps_set (i := 3) sc_place_crossing.nd rfl (Or.inl rfl) (by exact (FK.pe_h (E := E0) H_first_root (hr.mono (by decide)) pass0 (pa_cons (pv 0) (pa_cons (pv 2) pa_nil)))))
  (pss_cons (ps_for PassesOwn.never rfl (pi_range3 (by rfl) T.n_range (pa_cons (pe_op op_sub (pe_callB call_len_str (by rfl) T.n_len PySem.boot_len (pa_cons (pv 1) pa_nil)) pe_int) (pa_cons (pe_un un_neg pe_int) (pa_cons (pe_un un_neg pe_int) pa_nil)))) (pg_name (i := 4) sc_place_crossing.nd rfl (Or.inl rfl))
  (pss_cons (ps_set (i := 3) sc_place_crossing.nd rfl (Or.inl rfl) (by exact (FK.pe_h (E := E0) H_root_behind (hr.mono (by decide)) pass0 (pa_cons (pv 0) (pa_cons (pv 3) (pa_cons (pe_ix ix_str (pv 1) (pv 4) (fun _ _ => rfl)) pa_nil))))))
  (pss_one (ps_if (pt_cmpR op_lt (pe_callB (FK.cr_sumT rfl) (by rfl) T.n_sum (by decide +kernel) (pa_cons (pv 3) pa_nil)) pe_int (nomark _)) (pss_one (ps_ret (pv 4))) pss_nil))))
  (pss_one (ps_ret (pe_un un_neg pe_int))))), ?_⟩
    simp only [tSeq, tIfS, tOr, tAnd, tB, tTest, tCB, tCons, tVar, tC, tNil, tNot, tNotV, tRet, tRetN, tNext, tBreak, tOrV, tAndV, tOp, tUn, rEq, rNe, tChain, rI0, rI, rU, tAsg, gName, tDrop, tAug, ipI, tIf, tCall, tCallS, tLst, tTup, tBM, tBM0, rAppend, rExtend, rPop, rReverse, tyV, rIxL, rIxT, rIxS, rIsB, rNotB, L2.start, List.map_cons, List.map_nil, List.length_cons, List.length_nil, List.replicate, List.cons_append, List.nil_append, List.append_nil, List.getElem?_cons_zero, List.getElem?_cons_succ, List.set_cons_zero, List.set_cons_succ, Nat.reduceAdd, Nat.reduceSub, Option.some.injEq, exists_eq_left', exists_eq_left, V.int.injEq, V.bl.injEq, V.str.injEq, V.ref.injEq, List.cons.injEq, and_true, true_and, and_assoc, reduceCtorEq, false_and, exists_false, or_false, false_or, exists_and_left, exists_const, scal, Int.reduceLT, Int.reduceLE, Int.reduceSub, Int.reduceAdd, Int.reduceNeg, if_true, if_false]
    refine ⟨sc, a, b, c, s, l, rfl, hsc, hs, fun p0 H0 s0 hp0 e0 => ?_⟩
    simp only [tSeq, tIfS, tOr, tAnd, tB, tTest, tCB, tCons, tVar, tC, tNil, tNot, tNotV, tRet, tRetN, tNext, tBreak, tOrV, tAndV, tOp, tUn, rEq, rNe, tChain, rI0, rI, rU, tAsg, gName, tDrop, tAug, ipI, tIf, tCall, tCallS, tLst, tTup, tBM, tBM0, rAppend, rExtend, rPop, rReverse, tyV, rIxL, rIxT, rIxS, rIsB, rNotB, L2.start, List.map_cons, List.map_nil, List.length_cons, List.length_nil, List.replicate, List.cons_append, List.nil_append, List.append_nil, List.getElem?_cons_zero, List.getElem?_cons_succ, List.set_cons_zero, List.set_cons_succ, Nat.reduceAdd, Nat.reduceSub, Option.some.injEq, exists_eq_left', exists_eq_left, V.int.injEq, V.bl.injEq, V.str.injEq, V.ref.injEq, List.cons.injEq, and_true, true_and, and_assoc, reduceCtorEq, false_and, exists_false, or_false, false_or, exists_and_left, exists_const, scal, Int.reduceLT, Int.reduceLE, Int.reduceSub, Int.reduceAdd, Int.reduceNeg, if_true, if_false]
    have eu : (wS u).length = u.length := wS_len u
    obtain ⟨n, hn⟩ : ∃ n, n = u.length := ⟨_, rfl⟩
    refine FK.rd_for (J := Itc ((n : Int) - 1) (-1) n) (H1 := H0) (fun R r => by
        simp only [tSeq, tIfS, tOr, tAnd, tB, tTest, tCB, tCons, tVar, tC, tNil, tNot, tNotV, tRet, tRetN, tNext, tBreak, tOrV, tAndV, tOp, tUn, rEq, rNe, tChain, rI0, rI, rU, tAsg, gName, tDrop, tAug, ipI, tIf, tCall, tCallS, tLst, tTup, tBM, tBM0, rAppend, rExtend, rPop, rReverse, tyV, rIxL, rIxT, rIxS, rIsB, rNotB, L2.start, List.map_cons, List.map_nil, List.length_cons, List.length_nil, List.replicate, List.cons_append, List.nil_append, List.append_nil, List.getElem?_cons_zero, List.getElem?_cons_succ, List.set_cons_zero, List.set_cons_succ, Nat.reduceAdd, Nat.reduceSub, Option.some.injEq, exists_eq_left', exists_eq_left, V.int.injEq, V.bl.injEq, V.str.injEq, V.ref.injEq, List.cons.injEq, and_true, true_and, and_assoc, reduceCtorEq, false_and, exists_false, or_false, false_or, exists_and_left, exists_const, scal, Int.reduceLT, Int.reduceLE, Int.reduceSub, Int.reduceAdd, Int.reduceNeg, if_true, if_false, iRng3]
        have g := RgC.neg (i := (n : Int) - 1) (j := -1) (by omega) (by omega) (by omega) (by omega)
        rw [show ((n : Int) - 1 - -1).toNat = n by omega] at g
        exact ⟨zw (by omega), n, by rw [eu, ← hn]; exact g, by rw [eu, ← hn]; exact r⟩) walk_rangeC
      (fun i σ H' => ∃ (p : Addr) (v4 : Option V), σ = [some (.ref sc), some (.str (wS u)), some (.str (wS [l])), some (.ref p), v4] ∧ Same H H' ∧ H' p = some (.tup (v3i (rootI (bendT a b c (bitsOf s)) (TT s) (u.drop (n - i)) l))) ∧ place (bendT a b c (bitsOf s)) (TT s) u l = placeN (bendT a b c (bitsOf s)) (TT s) u l (n - i))
      ⟨p0, none, rfl, s0, by rw [Nat.sub_zero, hn, List.drop_length]; exact e0, by rw [Nat.sub_zero, hn]; rfl⟩ (fun _ _ _ _ _ => trivial) ?_ ?_
    · rintro i x' σ H1 H2 hi ⟨p, v4, rfl, s1, e1, ep⟩ ⟨rfl, hx⟩
      obtain ⟨k, hk⟩ : ∃ k, n - i = k + 1 := ⟨n - i - 1, by omega⟩
      have ex : x' = .int (k : Int) := by
        rw [hx]
        exact congrArg V.int (by omega)
      subst ex
      have hku : k < u.length := by omega
      have ej : u[k]? = some (u[k]'hku) := List.getElem?_eq_getElem hku
      have ed : u.drop k = u[k]'hku :: u.drop (k + 1) := List.drop_eq_getElem_cons hku
      rw [hk] at e1 ep
      simp only [tSeq, tIfS, tOr, tAnd, tB, tTest, tCB, tCons, tVar, tC, tNil, tNot, tNotV, tRet, tRetN, tNext, tBreak, tOrV, tAndV, tOp, tUn, rEq, rNe, tChain, rI0, rI, rU, tAsg, gName, tDrop, tAug, ipI, tIf, tCall, tCallS, tLst, tTup, tBM, tBM0, rAppend, rExtend, rPop, rReverse, tyV, rIxL, rIxT, rIxS, rIsB, rNotB, L2.start, List.map_cons, List.map_nil, List.length_cons, List.length_nil, List.replicate, List.cons_append, List.nil_append, List.append_nil, List.getElem?_cons_zero, List.getElem?_cons_succ, List.set_cons_zero, List.set_cons_succ, Nat.reduceAdd, Nat.reduceSub, Option.some.injEq, exists_eq_left', exists_eq_left, V.int.injEq, V.bl.injEq, V.str.injEq, V.ref.injEq, List.cons.injEq, and_true, true_and, and_assoc, reduceCtorEq, false_and, exists_false, or_false, false_or, exists_and_left, exists_const, scal, Int.reduceLT, Int.reduceLE, Int.reduceSub, Int.reduceAdd, Int.reduceNeg, if_true, if_false]
      refine ⟨zw (by omega), _, at_wS ej, ?_⟩
      rw [show (⟨#[48 + (u[k]'hku).1]⟩ : Str) = wS [u[k]'hku] from rfl]
      refine ⟨sc, p, a, b, c, s, _, u[k]'hku, rfl, hsc.same s1, hs, ha, hb, hc, e1, fun j => rootI_small hs ha hb hc l (by rw [List.length_drop]; omega) j, fun p2 H3 s3 hp2 e3 => ?_⟩
      have e4 : actI (bendT a b c (bitsOf s)) (TT s) (u[k]'hku) (rootI (bendT a b c (bitsOf s)) (TT s) (u.drop (k + 1)) l) = rootI (bendT a b c (bitsOf s)) (TT s) (u.drop k) l := by rw [ed]; rfl
      rw [e4] at e3
      generalize hD : rootI (bendT a b c (bitsOf s)) (TT s) (u.drop k) l = D at e3
      refine ⟨p2, [D 0, D 1, D 2], rfl, SqT.of e3, ?_⟩
      have es : ([D 0, D 1, D 2] : List Int).sum = sumI D := by
        unfold sumI
        simp
        omega
      rw [es]
      have ep2 : place (bendT a b c (bitsOf s)) (TT s) u l = if sumI D < 0 then (k : Int) else placeN (bendT a b c (bitsOf s)) (TT s) u l k := by
        rw [ep, ← hD]
        rfl
      by_cases c0 : sumI D < 0
      · rw [if_pos c0] at ep2
        rw [ep2] at q
        exact ⟨_, rfl, iteT' (decide_eq_true c0) (q H3 (s1.trans s3))⟩
      · rw [if_neg c0] at ep2
        exact ⟨_, rfl, iteF' (fun z => c0 (of_decide_eq_true z)) ⟨p2, rfl, s1.trans s3, by rw [show n - (i + 1) = k by omega, hD]; exact e3, by rw [show n - (i + 1) = k by omega]; exact ep2⟩⟩
    · rintro σ H1 ⟨p, v4, rfl, s1, e1, ep⟩
      simp only [tSeq, tIfS, tOr, tAnd, tB, tTest, tCB, tCons, tVar, tC, tNil, tNot, tNotV, tRet, tRetN, tNext, tBreak, tOrV, tAndV, tOp, tUn, rEq, rNe, tChain, rI0, rI, rU, tAsg, gName, tDrop, tAug, ipI, tIf, tCall, tCallS, tLst, tTup, tBM, tBM0, rAppend, rExtend, rPop, rReverse, tyV, rIxL, rIxT, rIxS, rIsB, rNotB, L2.start, List.map_cons, List.map_nil, List.length_cons, List.length_nil, List.replicate, List.cons_append, List.nil_append, List.append_nil, List.getElem?_cons_zero, List.getElem?_cons_succ, List.set_cons_zero, List.set_cons_succ, Nat.reduceAdd, Nat.reduceSub, Option.some.injEq, exists_eq_left', exists_eq_left, V.int.injEq, V.bl.injEq, V.str.injEq, V.ref.injEq, List.cons.injEq, and_true, true_and, and_assoc, reduceCtorEq, false_and, exists_false, or_false, false_or, exists_and_left, exists_const, scal, Int.reduceLT, Int.reduceLE, Int.reduceSub, Int.reduceAdd, Int.reduceNeg, if_true, if_false]
      rw [Nat.sub_self] at ep
      rw [ep] at q
      exact q H1 s1
theorem TT_288 : TT 0 = (2 : Int) ^ 288 := by rw [← TT_pow]; rfl
/-- the place that the program tells is the one that is left out -/
theorem place_left {a b c : Nat} (ha : okOrd a) (hb : okOrd b) (hc : okOrd c) {u : W} {l : Fin 3} (hu : u.length ≤ 64) (r : Red (om a b c) u) (hl : ln (om a b c) u = ln (om a b c) (u ++ [l]) + 1) : ∃ k : Nat, place (bendT a b c (bitsOf 0)) (TT 0) u l = (k : Int) ∧ k < u.length ∧ Eqv (om a b c) (u ++ [l]) (u.take k ++ u.drop (k + 1)) := by
  have F := fits_at (s := 0) ha hb hc (by decide)
  have sg : ∀ k, k ≤ u.length → (ln (om a b c) (u.drop k ++ [l]) = ln (om a b c) (u.drop k) + 1 → 0 < sumI (rootI (bendT a b c (bitsOf 0)) (TT 0) (u.drop k) l)) ∧ (ln (om a b c) (u.drop k) = ln (om a b c) (u.drop k ++ [l]) + 1 → sumI (rootI (bendT a b c (bitsOf 0)) (TT 0) (u.drop k) l) < 0) := fun k hk =>
    rsigns F (L := 64) (fun j hj => by rw [TT_288]; exact room5 j hj) (by rw [List.length_drop]; omega) l
  have go : ∀ n, n ≤ u.length → (n = u.length ∨ 0 < sumI (rootI (bendT a b c (bitsOf 0)) (TT 0) (u.drop n) l)) → (∃ k, k < n ∧ sumI (rootI (bendT a b c (bitsOf 0)) (TT 0) (u.drop k) l) < 0) → ∃ k : Nat, placeN (bendT a b c (bitsOf 0)) (TT 0) u l n = (k : Int) ∧ k < u.length ∧ sumI (rootI (bendT a b c (bitsOf 0)) (TT 0) (u.drop k) l) < 0 ∧ (k + 1 = u.length ∨ 0 < sumI (rootI (bendT a b c (bitsOf 0)) (TT 0) (u.drop (k + 1)) l)) := by
    intro n
    induction n with
    | zero =>
      rintro _ _ ⟨k, hk, _⟩
      omega
    | succ n ih =>
      rintro h1 h2 ⟨k, hk, hn⟩
      by_cases c0 : sumI (rootI (bendT a b c (bitsOf 0)) (TT 0) (u.drop n) l) < 0
      · exact ⟨n, by unfold placeN; rw [if_pos c0], by omega, c0, h2⟩
      · have pos : 0 < sumI (rootI (bendT a b c (bitsOf 0)) (TT 0) (u.drop n) l) := by
          have s1 := sg n (by omega)
          have s2 := ln_snoc (m := om a b c) (u.drop n) l
          rcases s2 with s2 | s2
          · exact s1.1 s2
          · exact absurd (s1.2 s2) c0
        have kn : k < n := by
          rcases Nat.lt_or_ge k n with h | h
          · exact h
          · obtain rfl : k = n := by omega
            exact absurd hn c0
        obtain ⟨k', e, h⟩ := ih (by omega) (.inr pos) ⟨k, kn, hn⟩
        exact ⟨k', by unfold placeN; rw [if_neg c0]; exact e, h⟩
  have u0 : 0 < u.length := by
    cases u with
    | nil =>
      have h1 := ln_self (m := om a b c) []
      rw [List.length_nil] at h1
      omega
    | cons _ _ => simp
  obtain ⟨k, e, hk, h1, h2⟩ := go u.length (Nat.le_refl _) (.inl rfl) ⟨0, u0, (sg 0 (by omega)).2 hl⟩
  refine ⟨k, e, hk, left_place r hk ?_ ?_⟩
  · have s1 := sg k (by omega)
    rcases ln_snoc (m := om a b c) (u.drop k) l with s2 | s2
    · have := s1.1 s2; omega
    · exact s2
  · have s2 := ln_snoc (m := om a b c) (u.drop (k + 1)) l
    rcases h2 with h2 | h2
    · rw [List.drop_of_length_le (by omega)] at s2 ⊢
      have h3 := ln_self (m := om a b c) []
      rw [List.length_nil] at h3
      omega
    · have s1 := sg (k + 1) (by omega)
      rcases s2 with s2 | s2
      · exact s2
      · have := s1.2 s2; omega
def spLeftF (K : PySem.W.Frag) (C : Addr) : Sp := fun vs H Q _ => ∃ (f o d : Addr) (a b c : Nat) (u : W) (l : Fin 3), vs = [.ref f, .str (wS u), .str (wS [l])] ∧ FlAt K C H f o d a b c ∧ u.length ≤ 64 ∧
  ∀ H', FlAt K C H' f o d a b c → FK.But d H H' → Q (.int (place (bendT a b c (bitsOf 0)) (TT 0) u l)) H'
theorem ok_Floor_left_out (T : Txt K mg cx) : FK.MHas P w K mg base CX0 5 cx.Floor "left_out" ["self", "word", "letter"] (spLeftF K cx.Floor) := by
  have H_Floor_scale := ok_Floor_scale (P := P) (w := w) (base := base) T
  have H_place_crossing := ok_place_crossing (P := P) (w := w) (base := base) T
  refine T.d_Floor_left_out.ok sc_Floor_left_out (fun vs H Q E h => ?_) (fun f cdv A outer s H vs Q E hr h => ?_)
  · obtain ⟨f, o, d, a, b, c, u, l, rfl, _⟩ := h
    rfl
  · obtain ⟨f, o, d, a, b, c, u, l, rfl, F, hu, q⟩ := h
    obtain ⟨dx, h1⟩ := F.ob
    refine ⟨_, (pss_one (ps_ret (FK.pe_h (E := E0) H_place_crossing (hr.mono (by decide)) pass0 (pa_cons (FK.pe_m (E := E0) (pv 0) T.cl_Floor H_Floor_scale (hr.mono (by decide)) pass0 (pa_cons (pe_callB call_len_str (by rfl) T.n_len PySem.boot_len (pa_cons (pv 1) pa_nil)) pa_nil)) (pa_cons (pv 1) (pa_cons (pv 2) pa_nil)))))), ?_⟩
    simp only [tSeq, tIfS, tOr, tAnd, tB, tTest, tCB, tCons, tVar, tC, tNil, tNot, tNotV, tRet, tRetN, tNext, tBreak, tOrV, tAndV, tOp, tUn, rEq, rNe, tChain, rI0, rI, rU, tAsg, gName, tDrop, tAug, ipI, tIf, tCall, tCallS, tLst, tTup, tBM, tBM0, rAppend, rExtend, rPop, rReverse, tyV, rIxL, rIxT, rIxS, rIsB, rNotB, L2.start, List.map_cons, List.map_nil, List.length_cons, List.length_nil, List.replicate, List.cons_append, List.nil_append, List.append_nil, List.getElem?_cons_zero, List.getElem?_cons_succ, List.set_cons_zero, List.set_cons_succ, Nat.reduceAdd, Nat.reduceSub, Option.some.injEq, exists_eq_left', exists_eq_left, V.int.injEq, V.bl.injEq, V.str.injEq, V.ref.injEq, List.cons.injEq, and_true, true_and, and_assoc, reduceCtorEq, false_and, exists_false, or_false, false_or, exists_and_left, exists_const, scal, Int.reduceLT, Int.reduceLE, Int.reduceSub, Int.reduceAdd, Int.reduceNeg, if_true, if_false, tMeth]
    have ez : (wS u).length = u.length := wS_len u
    refine ⟨dx, _, h1, fldsF_no _ _ (by decide +kernel) (by decide +kernel), zw (by omega), f, o, d, a, b, c, u.length, by rw [ez], F, by omega, fun sc H1 F1 b1 hsc => ?_⟩
    rw [show u.length / 128 = 0 by omega] at hsc
    exact ⟨sc, a, b, c, 0, u, l, rfl, hsc, by decide, F.ha, F.hb, F.hc, by omega, fun H2 s2 => q H2 (F1.same s2) (b1.trans (.of s2))⟩

theorem cut_one (u : W) (k : Nat) : cutS (wS u) none (some (k : Int)) ++ cutS (wS u) (some ((k : Int) + 1)) none = wS (u.take k ++ u.drop (k + 1)) := by
  rw [cut_to, show ((k : Int) + 1) = ((k + 1 : Nat) : Int) by omega, cut_from, wS_app]
def spBelow (K : PySem.W.Frag) (C : Addr) : Sp := fun vs H Q _ => ∃ (f o d : Addr) (a b c : Nat) (u : W) (l : Fin 3), vs = [.ref f, .str (wS u), .str (wS [l])] ∧ FlAt K C H f o d a b c ∧ u.length ≤ 64 ∧ Red (om a b c) u ∧ ln (om a b c) u = ln (om a b c) (u ++ [l]) + 1 ∧
  ∀ (k : Nat) H', k < u.length → Eqv (om a b c) (u ++ [l]) (u.take k ++ u.drop (k + 1)) → FlAt K C H' f o d a b c → FK.But d H H' → Q (.str (wS (u.take k ++ u.drop (k + 1)))) H'
theorem ok_Floor_below (T : Txt K mg cx) : FK.MHas P w K mg base CX0 6 cx.Floor "below" ["self", "tile", "letter"] (spBelow K cx.Floor) := by
  have H_Floor_left_out := ok_Floor_left_out (P := P) (w := w) (mg := mg) (base := base) T
  refine T.d_Floor_below.ok sc_Floor_below (fun vs H Q E h => ?_) (fun f cdv A outer s H vs Q E hr h => ?_)
  · obtain ⟨f, o, d, a, b, c, u, l, rfl, _⟩ := h
    rfl
  · obtain ⟨f, o, d, a, b, c, u, l, rfl, F, hu, r, hl, q⟩ := h
    obtain ⟨dx, h1⟩ := F.ob
    refine ⟨_, (pss_cons (ps_set (i := 3) sc_Floor_below.nd rfl (Or.inl rfl) (by exact (FK.pe_m (E := E0) (pv 0) T.cl_Floor H_Floor_left_out (hr.mono (by decide)) pass0 (pa_cons (pv 1) (pa_cons (pv 2) pa_nil)))))
  (pss_one (ps_ret (pe_op op_add_str (pe_slice sl_str (pv 1) po_none (po_some (pv 3))) (pe_slice sl_str (pv 1) (po_some (pe_op op_add (pv 3) pe_int)) po_none))))), ?_⟩
    simp only [tSeq, tIfS, tOr, tAnd, tB, tTest, tCB, tCons, tVar, tC, tNil, tNot, tNotV, tRet, tRetN, tNext, tBreak, tOrV, tAndV, tOp, tUn, rEq, rNe, tChain, rI0, rI, rU, tAsg, gName, tDrop, tAug, ipI, tIf, tCall, tCallS, tLst, tTup, tBM, tBM0, rAppend, rExtend, rPop, rReverse, tyV, rIxL, rIxT, rIxS, rIsB, rNotB, L2.start, List.map_cons, List.map_nil, List.length_cons, List.length_nil, List.replicate, List.cons_append, List.nil_append, List.append_nil, List.getElem?_cons_zero, List.getElem?_cons_succ, List.set_cons_zero, List.set_cons_succ, Nat.reduceAdd, Nat.reduceSub, Option.some.injEq, exists_eq_left', exists_eq_left, V.int.injEq, V.bl.injEq, V.str.injEq, V.ref.injEq, List.cons.injEq, and_true, true_and, and_assoc, reduceCtorEq, false_and, exists_false, or_false, false_or, exists_and_left, exists_const, scal, Int.reduceLT, Int.reduceLE, Int.reduceSub, Int.reduceAdd, Int.reduceNeg, if_true, if_false, tMeth, tSl, tNoPart, tPart, rSlS]
    refine ⟨dx, _, h1, fldsF_no _ _ (by decide +kernel) (by decide +kernel), f, o, d, a, b, c, u, l, rfl, F, hu, fun H1 F1 b1 => ?_⟩
    obtain ⟨k, ek, hk, e⟩ := place_left F.ha F.hb F.hc hu r hl
    rw [ek]
    have l1 : (wS u).length ≤ sizeLine := zw (by omega)
    refine ⟨_, rfl, l1, _, rfl, l1, ?_⟩
    rw [cut_one]
    exact ⟨by rw [cut_to, show ((k : Int) + 1) = ((k + 1 : Nat) : Int) by omega, cut_from, wS_len, wS_len, List.length_take, List.length_drop]; exact zl _ (by omega), q k H1 hk e F1 b1⟩


end
end K19

namespace K19
open PySem PySem.Spec PyProof.Rows L2 Cox
section
variable {P : Program} {w : World} {K : PySem.W.Frag} {mg : Str → Option Value} {base : Heap} {cx : Xs}
def spDistX (K : PySem.W.Frag) (CO CW : Addr) : Sp := fun vs H Q E => ∃ (o : Addr) (ns : List Int) (x y : Str), vs = [.ref o, .str x, .str y] ∧ SqT K H o (ns.map V.int) ∧ x.length < sizeLine ∧ y.length < sizeLine ∧
  (okOrders ns = false → ∀ H', Same H H' → E (.ref CO) none H') ∧ (okOrders ns = true → (okWord x 60 && okWord y 60) = false → ∀ H', Same H H' → E (.ref CW) none H') ∧
  (okOrders ns = true → okWord x 60 = true → okWord y 60 = true → ∀ (a b c : Nat) (u v : W) H', ns = [(a : Int), (b : Int), (c : Int)] → okOrd a → okOrd b → okOrd c → x = wS u → y = wS v → u.length ≤ 60 → v.length ≤ 60 → Same H H' → Q (.int ((nfw a b c (u.reverse ++ v)).length : Nat)) H')
theorem ok_distance (T : Txt K mg cx) : FK.Has P w K mg base (L2.CX P w) 8 "distance" ["orders", "one", "other"] (spDistX K cx.NotOrders cx.NotWord) := by
  have H_check_orders := ok_check_orders (P := P) (w := w) (base := base) T
  have H_check_words := ok_check_words (P := P) (w := w) (base := base) T
  have H_Floor_init := ok_Floor_init (P := P) (w := w) (mg := mg) (base := base) T
  have H_way_between := ok_way_between (P := P) (w := w) (base := base) T
  refine T.d_distance.okX sc_distance (fun vs H Q E h => ?_) (fun f cdv A outer s H vs Q E hr h => ?_)
  · obtain ⟨o, ns, x, y, rfl, _⟩ := h
    rfl
  · obtain ⟨o, ns, x, y, rfl, hS, hx, hy, qO, qW, q⟩ := h
    refine ⟨_, (pss_cons (ps_expr (FK.pe_h (E := E) H_check_orders (hr.mono (by decide)) (passes_call (takes_of rfl rfl rfl rfl) (fun _ _ _ _ h => h)) (pa_cons (pv 0) pa_nil)))
  (pss_cons (ps_expr (FK.pe_h (E := E) H_check_words (hr.mono (by decide)) (passes_call (takes_of rfl rfl rfl rfl) (fun _ _ _ _ h => h)) (pa_cons (pe_lst (pa_cons (pv 1) (pa_cons (pv 2) pa_nil))) pa_nil)))
  (pss_one (ps_ret (pe_callB call_len_str (by rfl) T.n_len PySem.boot_len (pa_cons (FK.pe_h (E := E0) H_way_between (hr.mono (by decide)) pass0 (pa_cons (FK.pe_i (E := E0) H_Floor_init (hr.mono (by decide)) T.g_Floor pass0 (pa_cons (pv 0) pa_nil)) (pa_cons (pv 1) (pa_cons (pv 2) pa_nil)))) pa_nil)))))), ?_⟩
    simp only [tSeq, tIfS, tOr, tAnd, tB, tTest, tCB, tCons, tVar, tC, tNil, tNot, tNotV, tRet, tRetN, tNext, tBreak, tOrV, tAndV, tOp, tUn, rEq, rNe, tChain, rI0, rI, rU, tAsg, gName, tDrop, tAug, ipI, tIf, tCall, tCallS, tLst, tTup, tBM, tBM0, rAppend, rExtend, rPop, rReverse, tyV, rIxL, rIxT, rIxS, rIsB, rNotB, L2.start, List.map_cons, List.map_nil, List.length_cons, List.length_nil, List.replicate, List.cons_append, List.nil_append, List.append_nil, List.getElem?_cons_zero, List.getElem?_cons_succ, List.set_cons_zero, List.set_cons_succ, Nat.reduceAdd, Nat.reduceSub, Option.some.injEq, exists_eq_left', exists_eq_left, V.int.injEq, V.bl.injEq, V.str.injEq, V.ref.injEq, List.cons.injEq, and_true, true_and, and_assoc, reduceCtorEq, false_and, exists_false, or_false, false_or, exists_and_left, exists_const, scal, Int.reduceLT, Int.reduceLE, Int.reduceSub, Int.reduceAdd, Int.reduceNeg, if_true, if_false, tMeth, tMake]
    refine ⟨o, ns, rfl, hS, qO, fun eO H1 s1 => ⟨by show 2 ≤ sizeLine; decide, fun p hp => ⟨p, [x, y], rfl, SqL.of upd_same, fun z hz => ?_, fun e H2 s2 => qW eO (by simpa using e) H2 ((s1.trans (FK.same_new hp)).trans s2), fun e H2 s2 => ?_⟩⟩⟩
    · rcases List.mem_cons.mp hz with rfl | hz
      · exact hx
      · rw [List.mem_singleton.mp hz]; exact hy
    · have e' : okWord x 60 = true ∧ okWord y 60 = true := by simpa using e
      obtain ⟨a, b, c, rfl, ha, hb, hc⟩ := orders_of eO
      obtain ⟨u, rfl, hu⟩ := word_ok e'.1
      obtain ⟨v, rfl, hv⟩ := word_ok e'.2
      have s02 := (s1.trans (FK.same_new hp)).trans s2
      refine fun f dx hf hdx ne => ⟨f, o, dx, rfl, upd_same, fun d H4 hd e1 e2 kp => ⟨rfl, ?_⟩⟩
      obtain ⟨F, s4, hd2⟩ := floor_new (FK.Same.tupS s02 hS) ha hb hc hf hdx hd e1 e2 kp
      exact ⟨f, o, d, a, b, c, u, v, rfl, F, by omega, fun H5 F5 b5 => by
        have q2 := q eO e'.1 e'.2 a b c u v H5 rfl ha hb hc rfl rfl (by omega) (by omega) (s02.trans (but_same s4 hd2 b5))
        have hn := (nfw_ok ha hb hc (w := u.reverse ++ v) (by simp; omega)).2.2.1
        have hn2 := ln_self (m := om a b c) (u.reverse ++ v)
        rw [List.length_append, List.length_reverse] at hn2
        rw [← wS_len] at q2
        exact ⟨_, rfl, by rw [wS_len]; exact zl _ (by omega), q2⟩⟩
def spIsB (K : PySem.W.Frag) : Sp := fun vs H Q _ => ∃ (o : Addr) (a b c : Nat) (t u v : W), vs = [.ref o, .str (wS t), .str (wS u), .str (wS v)] ∧ Og K H o a b c ∧ t.length ≤ 60 ∧ u.length ≤ 60 ∧ v.length ≤ 60 ∧
  ∀ H', Same H H' → Q (.bl (decide ((nfw a b c (u.reverse ++ t)).length + (nfw a b c (t.reverse ++ v)).length = (nfw a b c (u.reverse ++ v)).length))) H'
theorem ok_is_between (T : Txt K mg cx) : FK.Has P w K mg base (L2.CX P w) 8 "is_between" ["orders", "tile", "one", "other"] (spIsB K) := by
  have H_check_orders := ok_check_orders (P := P) (w := w) (base := base) T
  have H_check_word := ok_check_word (P := P) (w := w) (base := base) T
  have H_check_words := ok_check_words (P := P) (w := w) (base := base) T
  have H_Floor_init := ok_Floor_init (P := P) (w := w) (mg := mg) (base := base) T
  have H_way_between := ok_way_between (P := P) (w := w) (base := base) T
  refine T.d_is_between.okX sc_is_between (fun vs H Q E h => ?_) (fun f cdv A outer s H vs Q E hr h => ?_)
  · obtain ⟨o, a, b, c, t, u, v, rfl, _⟩ := h
    rfl
  · obtain ⟨o, a, b, c, t, u, v, rfl, g, ht, hu, hv, q⟩ := h
    refine ⟨_, (pss_cons (ps_expr (FK.pe_h (E := E) H_check_orders (hr.mono (by decide)) (passes_call (takes_of rfl rfl rfl rfl) (fun _ _ _ _ h => h)) (pa_cons (pv 0) pa_nil)))
  (pss_cons (ps_expr (FK.pe_h (E := E) H_check_word (hr.mono (by decide)) (passes_call (takes_of rfl rfl rfl rfl) (fun _ _ _ _ h => h)) (pa_cons (pv 1) pa_nil)))
  (pss_cons (ps_expr (FK.pe_h (E := E) H_check_words (hr.mono (by decide)) (passes_call (takes_of rfl rfl rfl rfl) (fun _ _ _ _ h => h)) (pa_cons (pe_lst (pa_cons (pv 2) (pa_cons (pv 3) pa_nil))) pa_nil)))
  (pss_cons (ps_set (i := 4) sc_is_between.nd rfl (Or.inl rfl) (by exact (FK.pe_i (E := E0) H_Floor_init (hr.mono (by decide)) T.g_Floor pass0 (pa_cons (pv 0) pa_nil))))
  (pss_cons (ps_set (i := 5) sc_is_between.nd rfl (Or.inl rfl) (by exact (pe_callB call_len_str (by rfl) T.n_len PySem.boot_len (pa_cons (FK.pe_h (E := E0) H_way_between (hr.mono (by decide)) pass0 (pa_cons (pv 4) (pa_cons (pv 2) (pa_cons (pv 1) pa_nil)))) pa_nil))))
  (pss_cons (ps_set (i := 6) sc_is_between.nd rfl (Or.inl rfl) (by exact (pe_callB call_len_str (by rfl) T.n_len PySem.boot_len (pa_cons (FK.pe_h (E := E0) H_way_between (hr.mono (by decide)) pass0 (pa_cons (pv 4) (pa_cons (pv 1) (pa_cons (pv 3) pa_nil)))) pa_nil))))
  (pss_one (ps_ret (pe_cmpR op_eq (pe_op op_add (pv 5) (pv 6)) (pe_callB call_len_str (by rfl) T.n_len PySem.boot_len (pa_cons (FK.pe_h (E := E0) H_way_between (hr.mono (by decide)) pass0 (pa_cons (pv 4) (pa_cons (pv 2) (pa_cons (pv 3) pa_nil)))) pa_nil)) (nomark _)))))))))), ?_⟩
    simp only [tSeq, tIfS, tOr, tAnd, tB, tTest, tCB, tCons, tVar, tC, tNil, tNot, tNotV, tRet, tRetN, tNext, tBreak, tOrV, tAndV, tOp, tUn, rEq, rNe, tChain, rI0, rI, rU, tAsg, gName, tDrop, tAug, ipI, tIf, tCall, tCallS, tLst, tTup, tBM, tBM0, rAppend, rExtend, rPop, rReverse, tyV, rIxL, rIxT, rIxS, rIsB, rNotB, L2.start, List.map_cons, List.map_nil, List.length_cons, List.length_nil, List.replicate, List.cons_append, List.nil_append, List.append_nil, List.getElem?_cons_zero, List.getElem?_cons_succ, List.set_cons_zero, List.set_cons_succ, Nat.reduceAdd, Nat.reduceSub, Option.some.injEq, exists_eq_left', exists_eq_left, V.int.injEq, V.bl.injEq, V.str.injEq, V.ref.injEq, List.cons.injEq, and_true, true_and, and_assoc, reduceCtorEq, false_and, exists_false, or_false, false_or, exists_and_left, exists_const, scal, Int.reduceLT, Int.reduceLE, Int.reduceSub, Int.reduceAdd, Int.reduceNeg, if_true, if_false, tMeth, tMake]
    have okU : okWord (wS u) 60 = true := okWord_wS (by omega)
    have okV : okWord (wS v) 60 = true := okWord_wS (by omega)
    have okT : okWord (wS t) 60 = true := okWord_wS (by omega)
    refine ⟨o, [(a : Int), (b : Int), (c : Int)], rfl, SqT.of g.ob, (fun e => by rw [g.ok] at e; cases e), fun _ H0 s0 => ⟨wS t, rfl, szw (by omega), (fun e => by rw [okT] at e; cases e), fun _ H1 s1' => ⟨by show 2 ≤ sizeLine; decide, fun p hp => ⟨p, [wS u, wS v], rfl, SqL.of upd_same, ?_, (fun e => by simp [okU, okV] at e), fun _ H2 s2 => ?_⟩⟩⟩⟩
    · intro z hz
      rcases List.mem_cons.mp hz with rfl | hz
      · exact szw (by omega)
      · rw [List.mem_singleton.mp hz]; exact szw (by omega)
    have s1 := s0.trans s1'
    have s03 := (s1.trans (FK.same_new hp)).trans s2
    refine fun f dx hf hdx ne => ⟨f, o, dx, rfl, upd_same, fun d H4 hd e1 e2 kp => ⟨rfl, ?_⟩⟩
    obtain ⟨F, s4, hd2⟩ := floor_new (K := K) (SqT.of (g.same s03).ob) g.ha g.hb g.hc hf hdx hd e1 e2 kp
    have Nl : ∀ (p q : W), p.length ≤ 60 → q.length ≤ 60 → (wS (nfw a b c (p.reverse ++ q))).length ≤ sizeLine := fun p q hp hq => by
      have hn := (nfw_ok g.ha g.hb g.hc (w := p.reverse ++ q) (by simp; omega)).2.2.1
      have hn2 := ln_self (m := om a b c) (p.reverse ++ q)
      rw [List.length_append, List.length_reverse] at hn2
      rw [wS_len]
      exact zl _ (by omega)
    refine ⟨f, o, d, a, b, c, u, t, rfl, F, by omega, fun H5 F5 b5 => ⟨_, rfl, Nl u t hu ht, f, o, d, a, b, c, t, v, rfl, F5, by omega, fun H6 F6 b6 => ⟨_, rfl, Nl t v ht hv, f, o, d, a, b, c, u, v, rfl, F6, by omega, fun H7 F7 b7 => ⟨_, rfl, Nl u v hu hv, ?_⟩⟩⟩⟩
    have q2 := q H7 (s03.trans (but_same s4 hd2 ((b5.trans b6).trans b7)))
    rw [wS_len, wS_len, wS_len]
    rw [show decide (((nfw a b c (u.reverse ++ t)).length : Int) + ((nfw a b c (t.reverse ++ v)).length : Int) = ((nfw a b c (u.reverse ++ v)).length : Int)) = decide ((nfw a b c (u.reverse ++ t)).length + (nfw a b c (t.reverse ++ v)).length = (nfw a b c (u.reverse ++ v)).length) from decide_eq_decide.2 ⟨fun h => by omega, fun h => by omega⟩]
    exact q2

end
end K19

namespace K19
open PySem PySem.Spec PyProof.Rows L2 Cox
section
variable {P : Program} {w : World} {K : PySem.W.Frag} {mg : Str → Option Value} {base : Heap} {cx : Xs}
/-- the tile beyond a side -/
def bel (a b c : Nat) (u : W) (l : Fin 3) : W := nfw a b c (u ++ [l])
def encN (d : List (W × Nat)) : List (Key × V) := d.map fun p => (keyW p.1, V.int (p.2 : Int))
def getN (d : List (W × Nat)) (k : W) : Nat := ((d.find? fun p => decide (p.1 = k)).map Prod.snd).getD 0
def putN (d : List (W × Nat)) (k : W) (n : Nat) : List (W × Nat) := if k ∈ d.map Prod.fst then d.map fun p => if p.1 = k then (k, n) else p else d ++ [(k, n)]
theorem val_encN (k : W) : ∀ d : List (W × Nat), valV (encN d) (keyW k) = (d.find? fun p => decide (p.1 = k)).map fun p => V.int (p.2 : Int)
  | [] => rfl
  | p :: d => by
    show valV ((keyW p.1, V.int (p.2 : Int)) :: encN d) (keyW k) = _
    by_cases e : p.1 = k
    · rw [valV_pos (p := (keyW p.1, V.int (p.2 : Int))) (by rw [e]), List.find?_cons_of_pos (by simpa using e)]
      rfl
    · rw [valV_neg (p := (keyW p.1, V.int (p.2 : Int))) (fun z => e (keyW_inj _ _ z)), List.find?_cons_of_neg (by simpa using e), val_encN k d]
theorem get_encN (d : List (W × Nat)) (k : W) : (valV (encN d) (keyW k)).getD (V.int 0) = V.int (getN d k : Int) := by
  rw [val_encN]
  unfold getN
  cases d.find? fun p => decide (p.1 = k) <;> rfl
theorem put_encN (d : List (W × Nat)) (k : W) (n : Nat) : putK (encN d) (keyW k) (V.int (n : Int)) = encN (putN d k n) := by
  have e : ((encN d).any fun kv => decide (kv.1 = keyW k)) = decide (k ∈ d.map Prod.fst) := by
    rw [Bool.eq_iff_iff, List.any_eq_true, decide_eq_true_iff, List.mem_map]
    unfold encN
    constructor
    · rintro ⟨x, hx, h⟩
      obtain ⟨y, hy, rfl⟩ := List.mem_map.mp hx
      exact ⟨y, hy, keyW_inj _ _ (of_decide_eq_true h)⟩
    · rintro ⟨y, hy, rfl⟩
      exact ⟨_, List.mem_map.mpr ⟨y, hy, rfl⟩, decide_eq_true rfl⟩
  unfold putK putN
  rw [e]
  by_cases h : k ∈ d.map Prod.fst
  · rw [if_pos (decide_eq_true h), if_pos h]
    unfold encN
    rw [List.map_map, List.map_map]
    refine List.map_congr_left fun p _ => ?_
    show (if keyW p.1 = keyW k then _ else _) = _
    by_cases e : p.1 = k
    · simp [Function.comp, e]
    · simp [Function.comp, e, show ¬ keyW p.1 = keyW k from fun z => e (keyW_inj _ _ z)]
  · rw [if_neg (by simpa using h), if_neg h]
    unfold encN
    rw [List.map_append]
    rfl
def one3 (a b c : Nat) (u : W) (n : Nat) (acc : List (W × Nat)) (ls : W) : List (W × Nat) := ls.foldl (fun acc l => putN acc (bel a b c u l) (getN acc (bel a b c u l) + n)) acc
def stepN (a b c : Nat) (d : List (W × Nat)) : List (W × Nat) := d.foldl (fun acc p => one3 a b c p.1 p.2 acc (endw a b c p.1)) []
theorem endw_le (a b c : Nat) (u : W) : (endw a b c u).length ≤ 3 := List.length_filter_le _ _
theorem len_putN (d : List (W × Nat)) (k : W) (n : Nat) : (putN d k n).length ≤ d.length + 1 := by
  unfold putN
  split
  · rw [List.length_map]; omega
  · rw [List.length_append, List.length_singleton]; omega
theorem mem_putN {d : List (W × Nat)} {k x : W} {n : Nat} : x ∈ (putN d k n).map Prod.fst ↔ x ∈ d.map Prod.fst ∨ x = k := by
  unfold putN
  split
  · rename_i h
    have e : ((d.map fun p => if p.1 = k then (k, n) else p).map Prod.fst) = d.map Prod.fst := by
      rw [List.map_map]
      refine List.map_congr_left fun p _ => ?_
      show (if p.1 = k then (k, n) else p).1 = p.1
      split
      · rename_i e; exact e.symm
      · rfl
    rw [e]
    exact ⟨.inl, fun h2 => h2.elim id fun e => by rw [e]; exact h⟩
  · rw [List.map_append, List.mem_append]
    simp
theorem len_one3 (a b c : Nat) (u : W) (n : Nat) : ∀ (ls : W) (acc : List (W × Nat)), (one3 a b c u n acc ls).length ≤ acc.length + ls.length
  | [], acc => Nat.le_refl _
  | l :: ls, acc => by
    have h1 := len_one3 a b c u n ls (putN acc (bel a b c u l) (getN acc (bel a b c u l) + n))
    have h2 := len_putN acc (bel a b c u l) (getN acc (bel a b c u l) + n)
    show (one3 a b c u n (putN acc (bel a b c u l) (getN acc (bel a b c u l) + n)) ls).length ≤ _
    rw [List.length_cons]
    omega
theorem mem_one3 {a b c : Nat} {u : W} {n : Nat} {x : W} : ∀ {ls : W} {acc : List (W × Nat)}, x ∈ (one3 a b c u n acc ls).map Prod.fst ↔ x ∈ acc.map Prod.fst ∨ ∃ l ∈ ls, x = bel a b c u l
  | [], acc => by simp [one3]
  | l :: ls, acc => by
    show x ∈ (one3 a b c u n (putN acc (bel a b c u l) (getN acc (bel a b c u l) + n)) ls).map Prod.fst ↔ _
    rw [mem_one3, mem_putN]
    constructor
    · rintro ((h | h) | ⟨l', h1, h2⟩)
      · exact .inl h
      · exact .inr ⟨l, List.mem_cons_self, h⟩
      · exact .inr ⟨l', List.mem_cons_of_mem _ h1, h2⟩
    · rintro (h | ⟨l', h1, h2⟩)
      · exact .inl (.inl h)
      · rcases List.mem_cons.mp h1 with rfl | h1
        · exact .inl (.inr h2)
        · exact .inr ⟨l', h1, h2⟩
theorem one3_take (a b c : Nat) (u : W) (n : Nat) (acc : List (W × Nat)) {ls : W} {i : Nat} {l : Fin 3} (h : ls[i]? = some l) : one3 a b c u n acc (ls.take (i + 1)) = putN (one3 a b c u n acc (ls.take i)) (bel a b c u l) (getN (one3 a b c u n acc (ls.take i)) (bel a b c u l) + n) := by
  unfold one3
  rw [List.take_add_one, h, List.foldl_append]
  rfl
theorem stepN_take (a b c : Nat) (d : List (W × Nat)) {j : Nat} {p : W × Nat} (h : d[j]? = some p) : stepN a b c (d.take (j + 1)) = one3 a b c p.1 p.2 (stepN a b c (d.take j)) (endw a b c p.1) := by
  unfold stepN
  rw [List.take_add_one, h, List.foldl_append]
  rfl
theorem len_stepN (a b c : Nat) (d : List (W × Nat)) : ∀ j, j ≤ d.length → (stepN a b c (d.take j)).length ≤ 3 * j
  | 0, _ => by simp [stepN]
  | j + 1, h => by
    rw [stepN_take a b c d (List.getElem?_eq_getElem (by omega : j < d.length))]
    have h1 := len_one3 a b c d[j].1 d[j].2 (endw a b c d[j].1) (stepN a b c (d.take j))
    have h2 := endw_le a b c d[j].1
    have h3 := len_stepN a b c d j (by omega)
    omega
theorem mem_stepN {a b c : Nat} {x : W} (d : List (W × Nat)) : ∀ j, j ≤ d.length → (x ∈ (stepN a b c (d.take j)).map Prod.fst ↔ ∃ p ∈ d.take j, ∃ l ∈ endw a b c p.1, x = bel a b c p.1 l)
  | 0, _ => by simp [stepN]
  | j + 1, h => by
    have hj := List.getElem?_eq_getElem (by omega : j < d.length)
    rw [stepN_take a b c d hj, mem_one3, mem_stepN d j (by omega), List.take_add_one, hj]
    simp only [Option.toList_some, List.mem_append, List.mem_singleton]
    constructor
    · rintro (⟨p, h1, h2⟩ | h)
      · exact ⟨p, .inl h1, h2⟩
      · exact ⟨_, .inr rfl, h⟩
    · rintro ⟨p, h1 | rfl, h2⟩
      · exact .inl ⟨p, h1, h2⟩
      · exact .inr h2
/-- a word is the least of its tile -/
def Nw (a b c : Nat) (u : W) : Prop := nfw a b c u = u
theorem Nw.red {a b c : Nat} (ha : okOrd a) (hb : okOrd b) (hc : okOrd c) {u : W} (h : Nw a b c u) (hu : u.length ≤ 60) : Red (om a b c) u := by
  have := (nfw_ok ha hb hc (w := u) (by omega)).2.1
  rwa [show nfw a b c u = u from h] at this
theorem bel_eqv {a b c : Nat} (ha : okOrd a) (hb : okOrd b) (hc : okOrd c) {u : W} (hu : u.length ≤ 60) (l : Fin 3) : Eqv (om a b c) (u ++ [l]) (bel a b c u l) := (nfw_ok ha hb hc (w := u ++ [l]) (by rw [List.length_append, List.length_singleton]; omega)).1
theorem bel_nw {a b c : Nat} (ha : okOrd a) (hb : okOrd b) (hc : okOrd c) {u : W} (hu : u.length ≤ 60) (l : Fin 3) : Nw a b c (bel a b c u l) := by
  have h := nfw_ok ha hb hc (w := u ++ [l]) (by rw [List.length_append, List.length_singleton]; omega)
  have h2 := ln_self (m := om a b c) (u ++ [l])
  rw [List.length_append, List.length_singleton] at h2
  have h3 : (bel a b c u l).length ≤ 61 := by
    show (nfw a b c (u ++ [l])).length ≤ 61
    omega
  exact nfw_congr ha hb hc (by omega) (by rw [List.length_append, List.length_singleton]; omega) h.1.symm
theorem bel_len {a b c : Nat} (ha : okOrd a) (hb : okOrd b) (hc : okOrd c) {u : W} (hu : u.length ≤ 60) (nu : Nw a b c u) {l : Fin 3} (hl : l ∈ endw a b c u) : (bel a b c u l).length + 1 = u.length := by
  have h := nfw_ok ha hb hc (w := u ++ [l]) (by rw [List.length_append, List.length_singleton]; omega)
  have h1 := (endw_ok ha hb hc (by omega) l).1 hl
  have h2 : ln (om a b c) u = u.length := nu.red ha hb hc hu
  show (nfw a b c (u ++ [l])).length + 1 = _
  omega
theorem bel_left {a b c : Nat} (ha : okOrd a) (hb : okOrd b) (hc : okOrd c) {u : W} (hu : u.length ≤ 60) (nu : Nw a b c u) {l : Fin 3} (hl : l ∈ endw a b c u) {k : Nat} (hk : k < u.length) (e : Eqv (om a b c) (u ++ [l]) (u.take k ++ u.drop (k + 1))) : u.take k ++ u.drop (k + 1) = bel a b c u l := by
  have h := nfw_ok ha hb hc (w := u ++ [l]) (by rw [List.length_append, List.length_singleton]; omega)
  have hb1 := bel_len ha hb hc hu nu hl
  have lt : (u.take k ++ u.drop (k + 1)).length + 1 = u.length := by
    rw [List.length_append, List.length_take, List.length_drop]; omega
  have eu : u.take k ++ u[k] :: u.drop (k + 1) = u := by rw [← List.drop_eq_getElem_cons hk, List.take_append_drop]
  have rl : Red (om a b c) (u.take k ++ u.drop (k + 1)) := by
    have h1 := ln_eqv e
    have h2 := h.2.2.1
    show ln (om a b c) (u.take k ++ u.drop (k + 1)) = _
    have h3 : (bel a b c u l).length = (nfw a b c (u ++ [l])).length := rfl
    omega
  have hw := nfw_ok ha hb hc (w := u) (by omega)
  rw [show nfw a b c u = u from nu] at hw
  exact (left_least (m := om a b c) (a := u.take k) (c := u.drop (k + 1)) (d := bel a b c u l) (p := u[k]) (s := l) (by rw [eu]; exact hw.2.2.2) (by rw [eu]; exact hw.2.1) (by rw [eu]; exact e) (e.symm.trans h.1) (by omega) (h.2.2.2 _ rl e)).symm
def spNB (K : PySem.W.Frag) (C : Addr) : Sp := fun vs H Q _ => ∃ (f o d D : Addr) (a b c : Nat) (ks : List (W × Nat)), vs = [.ref f, .ref D] ∧ FlAt K C H f o d a b c ∧ D ≠ d ∧ H D = some (.dK (encN ks)) ∧ (∀ p ∈ ks, Nw a b c p.1 ∧ p.1.length ≤ 60) ∧ ks.length ≤ 4000000 ∧
  ∀ D' H', H D' = none → H' D' = some (.dK (encN (stepN a b c ks))) → FlAt K C H' f o d a b c → FK.But d H H' → Q (.ref D') H'
theorem ok_numbers_below (T : Txt K mg cx) : FK.Has P w K mg base CX0 7 "numbers_below" ["floor", "numbers"] (spNB K cx.Floor) := by
  have H_Floor_ends := ok_Floor_ends (P := P) (w := w) (mg := mg) (base := base) T
  have H_Floor_below := ok_Floor_below (P := P) (w := w) (mg := mg) (base := base) T
  refine T.d_numbers_below.ok sc_numbers_below (fun vs H Q E h => ?_) (fun f cdv A outer s H vs Q E hr h => ?_)
  · obtain ⟨f, o, d, D, a, b, c, ks, rfl, _⟩ := h
    rfl
  · obtain ⟨f, o, d, D, a, b, c, ks, rfl, F, nDd, eD, hk, hl, q⟩ := h
    refine ⟨_, (pss_cons (ps_set (i := 2) sc_numbers_below.nd rfl (Or.inl rfl) pe_dnewK)
  (pss_cons (ps_lock (ps_for PassesOwn.never rfl (pi_items (pv 1)) (pg_tup rfl (pgs_cons (pg_name (i := 3) sc_numbers_below.nd rfl (Or.inl rfl)) (pgs_cons (pg_name (i := 4) sc_numbers_below.nd rfl (Or.inl rfl)) pgs_nil)))
  (pss_one (ps_for PassesOwn.never rfl (pi_str (FK.pe_m (E := E0) (pv 0) T.cl_Floor H_Floor_ends (hr.mono (by decide)) pass0 (pa_cons (pv 3) pa_nil))) (pg_name (i := 5) sc_numbers_below.nd rfl (Or.inl rfl))
  (pss_cons (ps_set (i := 6) sc_numbers_below.nd rfl (Or.inl rfl) (by exact (FK.pe_m (E := E0) (pv 0) T.cl_Floor H_Floor_below (hr.mono (by decide)) pass0 (pa_cons (pv 3) (pa_cons (pv 5) pa_nil)))))
  (pss_one (ps_dput (hu_of hr) (pv 2) (pv 6) (pe_op op_add (pe_dget2 (hu_of hr) (pv 2) (pv 6) pe_int ⟨rfl, rfl, rfl, rfl⟩) (pv 4)) rfl)))))))
  (pss_one (ps_ret (pv 2))))), ?_⟩
    simp only [tSeq, tIfS, tOr, tAnd, tB, tTest, tCB, tCons, tVar, tC, tNil, tNot, tNotV, tRet, tRetN, tNext, tBreak, tOrV, tAndV, tOp, tUn, rEq, rNe, tChain, rI0, rI, rU, tAsg, gName, tDrop, tAug, ipI, tIf, tCall, tCallS, tLst, tTup, tBM, tBM0, rAppend, rExtend, rPop, rReverse, tyV, rIxL, rIxT, rIxS, rIsB, rNotB, L2.start, List.map_cons, List.map_nil, List.length_cons, List.length_nil, List.replicate, List.cons_append, List.nil_append, List.append_nil, List.getElem?_cons_zero, List.getElem?_cons_succ, List.set_cons_zero, List.set_cons_succ, Nat.reduceAdd, Nat.reduceSub, Option.some.injEq, exists_eq_left', exists_eq_left, V.int.injEq, V.bl.injEq, V.str.injEq, V.ref.injEq, List.cons.injEq, and_true, true_and, and_assoc, reduceCtorEq, false_and, exists_false, or_false, false_or, exists_and_left, exists_const, scal, Int.reduceLT, Int.reduceLE, Int.reduceSub, Int.reduceAdd, Int.reduceNeg, if_true, if_false, tMeth]
    refine fun D1 hD1 => ?_
    have nD1 : D1 ≠ d := F.ned hD1
    have nD1D : D1 ≠ D := fun z => by rw [z, eD] at hD1; cases hD1
    have eD' : upd H D1 (.dK []) D = some (HO.dK (encN ks)) := by rw [upd_ne nD1D.symm]; exact eD
    refine ⟨D, _, eD', trivial, fun od => ?_⟩
    have F1 := F.same (FK.same_new (o := HO.dK []) hD1)
    have FZ := F1.frX (H' := upd (upd H D1 (.dK [])) D (.frz od (.dK (encN ks)))) eD' nDd (fun _ h => nomatch h) (fun _ _ h => nomatch h) (fun _ _ _ h => nomatch h) (fun b' u' e' hb => by rw [upd_ne hb]; exact e')
    refine FK.rd_for (J := Iti D od (encN ks)) (H1 := upd (upd H D1 (.dK [])) D (.frz od (.dK (encN ks)))) (fun R r => ⟨_, rfl, D, od, _, rfl, upd_same, r⟩) walk_items
      (fun j σ H' => ∃ (v3 v4 v5 v6 : Option V), σ = [some (.ref f), some (.ref D), some (.ref D1), v3, v4, v5, v6] ∧ FlAt K cx.Floor H' f o d a b c ∧ H' D1 = some (.dK (encN (stepN a b c (ks.take j)))) ∧ H' D = some (.frz od (.dK (encN ks))) ∧ (∀ x v, x ≠ d → x ≠ D → H x = some v → H' x = some v))
      ⟨none, none, none, none, rfl, FZ, by rw [upd_ne nD1D, upd_same]; rfl, upd_same, fun x v h1 h2 e => by rw [upd_ne h2]; exact FK.same_new hD1 _ _ e⟩ (fun i σ H' _ ⟨_, _, _, _, _, _, _, h, _⟩ => h) ?_ ?_
    · rintro j x' σ Ha Hb hj ⟨v3, v4, v5, v6, rfl, Fa, e1, e2, ka⟩ ⟨T1, x1, y1, rfl, hT1, rfl, hx1, hy1⟩
      have lE : (encN ks).length = ks.length := List.length_map _
      rw [lE] at hj
      have hkj := List.getElem?_eq_getElem hj
      have eE : (encN ks)[j]? = some (keyW ks[j].1, V.int (ks[j].2 : Int)) := by
        unfold encN
        rw [List.getElem?_map, hkj]
        rfl
      have hx1 : (encN ks)[j]?.map (fun kv => kV kv.1) = some x1 := hx1
      have hy1 : (encN ks)[j]?.map Prod.snd = some y1 := hy1
      rw [eE] at hx1 hy1
      cases hx1
      cases hy1
      obtain ⟨nu, lu⟩ := hk _ (List.getElem_mem hj)
      have Fb := Fa.same (FK.same_new (o := HO.tup [kV (keyW ks[j].1), V.int (ks[j].2 : Int)]) hT1)
      refine ⟨T1, _, rfl, SqT.of upd_same, rfl, ?_⟩
      generalize hu0 : ks[j].1 = u at *
      generalize hn0 : ks[j].2 = n at *
      refine ⟨_, _, rfl, ?_⟩
      refine ⟨_, _, rfl, ?_⟩
      refine ⟨rfl, ?_⟩
      refine FK.for_str ?_
      simp only [tSeq, tIfS, tOr, tAnd, tB, tTest, tCB, tCons, tVar, tC, tNil, tNot, tNotV, tRet, tRetN, tNext, tBreak, tOrV, tAndV, tOp, tUn, rEq, rNe, tChain, rI0, rI, rU, tAsg, gName, tDrop, tAug, ipI, tIf, tCall, tCallS, tLst, tTup, tBM, tBM0, rAppend, rExtend, rPop, rReverse, tyV, rIxL, rIxT, rIxS, rIsB, rNotB, L2.start, List.map_cons, List.map_nil, List.length_cons, List.length_nil, List.replicate, List.cons_append, List.nil_append, List.append_nil, List.getElem?_cons_zero, List.getElem?_cons_succ, List.set_cons_zero, List.set_cons_succ, Nat.reduceAdd, Nat.reduceSub, Option.some.injEq, exists_eq_left', exists_eq_left, V.int.injEq, V.bl.injEq, V.str.injEq, V.ref.injEq, List.cons.injEq, and_true, true_and, and_assoc, reduceCtorEq, false_and, exists_false, or_false, false_or, exists_and_left, exists_const, scal, Int.reduceLT, Int.reduceLE, Int.reduceSub, Int.reduceAdd, Int.reduceNeg, if_true, if_false, tMeth]
      obtain ⟨dx, e4⟩ := Fb.ob
      refine ⟨dx, _, e4, fldsF_no _ _ (by decide +kernel) (by decide +kernel), f, o, d, a, b, c, u, rfl, Fb, by omega, fun Hc Fc bc => ⟨_, rfl, ?_⟩⟩
      have kH : ∀ {x : Addr} {v : HO}, upd Ha T1 (.tup [kV (keyW u), .int (n : Int)]) x = some v → Ha T1 = none → Ha x = some v → True := fun _ _ _ => trivial
      have e1b : upd Ha T1 (.tup [kV (keyW u), .int (n : Int)]) D1 = some (.dK (encN (stepN a b c (ks.take j)))) := FK.same_new hT1 _ _ e1
      have e2b : upd Ha T1 (.tup [kV (keyW u), .int (n : Int)]) D = some (.frz od (.dK (encN ks))) := FK.same_new hT1 _ _ e2
      have lsz : (stepN a b c (ks.take j)).length ≤ 12000000 := by
        have := len_stepN a b c ks j (by omega)
        omega
      have l3 := endw_le a b c u
      refine FK.rd_for (J := Its (wS (endw a b c u))) (H1 := Hc) (fun R r => r) walk_str
        (fun i σ H' => ∃ v5 v6 : Option V, σ = [some (.ref f), some (.ref D), some (.ref D1), some (.str (wS (u))), some (V.int n), v5, v6] ∧ FlAt K cx.Floor H' f o d a b c ∧ H' D1 = some (.dK (encN (one3 a b c u n (stepN a b c (ks.take j)) ((endw a b c u).take i)))) ∧ H' D = some (.frz od (.dK (encN ks))) ∧ (∀ x v, x ≠ d → x ≠ D → H x = some v → H' x = some v))
        ⟨v5, v6, rfl, Fc, bc _ _ nD1 e1b, bc _ _ nDd e2b, fun x v h1 h2 e => bc _ _ h1 (FK.same_new hT1 _ _ (ka x v h1 h2 e))⟩ (fun _ _ _ _ _ => trivial) ?_ ?_
      · rintro i x' σ Hd He hi ⟨v5, v6, rfl, Fd, e1d, e2d, kd⟩ ⟨rfl, ch, hch, rfl⟩
        obtain ⟨l, hl0, el0⟩ := wS_at hch
        rw [el0]
        have hl1 := List.mem_of_getElem? hl0
        have hi : i < (endw a b c u).length := by
          have h2 : (wS (endw a b c u)).cps.size = (endw a b c u).length := wS_len _
          omega
        simp only [tSeq, tIfS, tOr, tAnd, tB, tTest, tCB, tCons, tVar, tC, tNil, tNot, tNotV, tRet, tRetN, tNext, tBreak, tOrV, tAndV, tOp, tUn, rEq, rNe, tChain, rI0, rI, rU, tAsg, gName, tDrop, tAug, ipI, tIf, tCall, tCallS, tLst, tTup, tBM, tBM0, rAppend, rExtend, rPop, rReverse, tyV, rIxL, rIxT, rIxS, rIsB, rNotB, L2.start, List.map_cons, List.map_nil, List.length_cons, List.length_nil, List.replicate, List.cons_append, List.nil_append, List.append_nil, List.getElem?_cons_zero, List.getElem?_cons_succ, List.set_cons_zero, List.set_cons_succ, Nat.reduceAdd, Nat.reduceSub, Option.some.injEq, exists_eq_left', exists_eq_left, V.int.injEq, V.bl.injEq, V.str.injEq, V.ref.injEq, List.cons.injEq, and_true, true_and, and_assoc, reduceCtorEq, false_and, exists_false, or_false, false_or, exists_and_left, exists_const, scal, Int.reduceLT, Int.reduceLE, Int.reduceSub, Int.reduceAdd, Int.reduceNeg, if_true, if_false, tMeth, sDPut]
        obtain ⟨dx5, e5⟩ := Fd.ob
        refine ⟨dx5, _, e5, fldsF_no _ _ (by decide +kernel) (by decide +kernel), f, o, d, a, b, c, u, l, rfl, Fd, by omega, nu.red F.ha F.hb F.hc lu, (endw_ok F.ha F.hb F.hc (by omega) l).1 hl1, fun k H6 hk6 e6 F6 b6 => ?_⟩
        rw [bel_left F.ha F.hb F.hc lu nu hl1 hk6 e6]
        have e1f := b6 _ _ nD1 e1d
        have e2f := b6 _ _ nDd e2d
        have lo := len_one3 a b c u n ((endw a b c u).take i) (stepN a b c (ks.take j))
        rw [List.length_take] at lo
        generalize hacc : one3 a b c u n (stepN a b c (ks.take j)) ((endw a b c u).take i) = acc at *
        simp only [tSeq, tIfS, tOr, tAnd, tB, tTest, tCB, tCons, tVar, tC, tNil, tNot, tNotV, tRet, tRetN, tNext, tBreak, tOrV, tAndV, tOp, tUn, rEq, rNe, tChain, rI0, rI, rU, tAsg, gName, tDrop, tAug, ipI, tIf, tCall, tCallS, tLst, tTup, tBM, tBM0, rAppend, rExtend, rPop, rReverse, tyV, rIxL, rIxT, rIxS, rIsB, rNotB, L2.start, List.map_cons, List.map_nil, List.length_cons, List.length_nil, List.replicate, List.cons_append, List.nil_append, List.append_nil, List.getElem?_cons_zero, List.getElem?_cons_succ, List.set_cons_zero, List.set_cons_succ, Nat.reduceAdd, Nat.reduceSub, Option.some.injEq, exists_eq_left', exists_eq_left, V.int.injEq, V.bl.injEq, V.str.injEq, V.ref.injEq, List.cons.injEq, and_true, true_and, and_assoc, reduceCtorEq, false_and, exists_false, or_false, false_or, exists_and_left, exists_const, scal, Int.reduceLT, Int.reduceLE, Int.reduceSub, Int.reduceAdd, Int.reduceNeg, if_true, if_false, tDGet2]
        refine ⟨.inl ⟨_, .inl e1f⟩, _, DGet.k (k := keyW (bel a b c u l)) e1f, (getN acc (bel a b c u l) : Int), get_encN _ _, upd H6 D1 (.dK (encN (putN acc (bel a b c u l) (getN acc (bel a b c u l) + n)))), ?_, F6.frX e1f nD1 (fun _ h => nomatch h) (fun _ _ h => nomatch h) (fun _ _ _ h => nomatch h) (fun b' u' e' hb => by rw [upd_ne hb]; exact e'), ?_, by rw [upd_ne nD1D.symm]; exact e2f, fun x v h1 h2 e => ?_⟩
        · rw [← put_encN, Int.natCast_add]
          refine DPut.k (k := keyW (bel a b c u l)) e1f ?_
          unfold encN
          rw [List.length_map]
          exact Nat.lt_of_le_of_lt (show acc.length ≤ 12000003 by omega) (by decide)
        · rw [upd_same, one3_take a b c u n _ hl0, hacc]
        · rw [upd_ne (fun z => by rw [z, hD1] at e; cases e)]
          exact b6 _ _ h1 (kd x v h1 h2 e)
      · rintro σ Hd ⟨v5, v6, rfl, Fd, e1d, e2d, kd⟩
        rw [show (wS (endw a b c u)).cps.size = (endw a b c u).length from wS_len _, List.take_length] at e1d
        refine ⟨_, _, _, _, rfl, Fd, ?_, e2d, kd⟩
        rw [e1d, stepN_take a b c ks hkj, hu0, hn0]
    · rintro σ Ha ⟨v3, v4, v5, v6, rfl, Fa, e1, e2, ka⟩
      rw [show (encN ks).length = ks.length from List.length_map _, List.take_length] at e1
      refine ⟨e2, ?_⟩
      simp only [tSeq, tIfS, tOr, tAnd, tB, tTest, tCB, tCons, tVar, tC, tNil, tNot, tNotV, tRet, tRetN, tNext, tBreak, tOrV, tAndV, tOp, tUn, rEq, rNe, tChain, rI0, rI, rU, tAsg, gName, tDrop, tAug, ipI, tIf, tCall, tCallS, tLst, tTup, tBM, tBM0, rAppend, rExtend, rPop, rReverse, tyV, rIxL, rIxT, rIxS, rIsB, rNotB, L2.start, List.map_cons, List.map_nil, List.length_cons, List.length_nil, List.replicate, List.cons_append, List.nil_append, List.append_nil, List.getElem?_cons_zero, List.getElem?_cons_succ, List.set_cons_zero, List.set_cons_succ, Nat.reduceAdd, Nat.reduceSub, Option.some.injEq, exists_eq_left', exists_eq_left, V.int.injEq, V.bl.injEq, V.str.injEq, V.ref.injEq, List.cons.injEq, and_true, true_and, and_assoc, reduceCtorEq, false_and, exists_false, or_false, false_or, exists_and_left, exists_const, scal, Int.reduceLT, Int.reduceLE, Int.reduceSub, Int.reduceAdd, Int.reduceNeg, if_true, if_false]
      refine q D1 _ hD1 (by rw [upd_ne nD1D]; exact e1) (Fa.frX e2 nDd (fun _ h => nomatch h) (fun _ _ h => nomatch h) (fun _ _ _ h => nomatch h) (fun b' u' e' hb => by rw [upd_ne hb]; exact e')) fun x v h1 e => ?_
      by_cases h2 : x = D
      · subst h2
        rw [upd_same, ← eD, e]
      · rw [upd_ne h2]
        exact ka x v h1 h2 e

end
end K19

namespace K19
open PySem PySem.Spec PyProof.Rows L2 Cox
section
variable {P : Program} {w : World} {K : PySem.W.Frag} {mg : Str → Option Value} {base : Heap} {cx : Xs}
def itN (a b c : Nat) (d : List (W × Nat)) : Nat → List (W × Nat)
  | 0 => d
  | n + 1 => stepN a b c (itN a b c d n)
def cw (a b c : Nat) (w0 : W) : Nat := getN (itN a b c [(w0, 1)] w0.length) []
theorem end_ex {a b c : Nat} (ha : okOrd a) (hb : okOrd b) (hc : okOrd c) {u : W} (hu : u.length ≤ 60) (nu : Nw a b c u) (ne : u ≠ []) : ∃ l, l ∈ endw a b c u := by
  obtain ⟨u', l, rfl⟩ : ∃ u' l, u = u' ++ [l] := ⟨u.dropLast, u.getLast ne, (List.dropLast_concat_getLast ne).symm⟩
  refine ⟨l, (endw_ok ha hb hc (by omega) l).2 ?_⟩
  have r : ln (om a b c) (u' ++ [l]) = (u' ++ [l]).length := nu.red ha hb hc hu
  rw [List.length_append, List.length_singleton] at r
  have e : Eqv (om a b c) (u' ++ [l] ++ [l]) u' := by
    have := (Eqv.cancel (m := om a b c) l).left u'
    simpa using this
  have h1 := ln_eqv e
  have h2 := ln_self (m := om a b c) u'
  rcases ln_snoc (m := om a b c) (u' ++ [l]) l with h | h <;> omega
theorem lv_itN {a b c : Nat} (ha : okOrd a) (hb : okOrd b) (hc : okOrd c) {w0 : W} (n0 : Nw a b c w0) (l0 : w0.length ≤ 14) : ∀ n, n ≤ w0.length →
    (∀ p ∈ itN a b c [(w0, 1)] n, Nw a b c p.1 ∧ p.1.length + n = w0.length) ∧ itN a b c [(w0, 1)] n ≠ [] ∧ (itN a b c [(w0, 1)] n).length ≤ 3 ^ n
  | 0, _ => ⟨fun p hp => by rw [List.mem_singleton.mp hp]; exact ⟨n0, rfl⟩, by simp [itN], by simp [itN]⟩
  | n + 1, h => by
    obtain ⟨h1, h2, h3⟩ := lv_itN ha hb hc n0 l0 n (by omega)
    have hm := fun x => mem_stepN (a := a) (b := b) (c := c) (x := x) (itN a b c [(w0, 1)] n) _ (Nat.le_refl _)
    have hl := len_stepN a b c (itN a b c [(w0, 1)] n) _ (Nat.le_refl _)
    rw [List.take_length] at hm hl
    show (∀ p ∈ stepN a b c (itN a b c [(w0, 1)] n), _) ∧ stepN a b c (itN a b c [(w0, 1)] n) ≠ [] ∧ (stepN a b c (itN a b c [(w0, 1)] n)).length ≤ _
    refine ⟨fun p hp => ?_, fun z => ?_, by rw [Nat.pow_succ]; omega⟩
    · obtain ⟨q, hq, l, hl, e⟩ := (hm p.1).1 (List.mem_map.mpr ⟨p, hp, rfl⟩)
      obtain ⟨k1, k2⟩ := h1 q hq
      rw [e]
      have := bel_len ha hb hc (by omega) k1 hl
      exact ⟨bel_nw ha hb hc (by omega) l, by omega⟩
    · obtain ⟨q, hq⟩ := List.exists_mem_of_ne_nil _ h2
      obtain ⟨k1, k2⟩ := h1 q hq
      obtain ⟨l, hl⟩ := end_ex ha hb hc (by omega) k1 (fun e => by rw [e] at k2; simp at k2; omega)
      have := (hm (bel a b c q.1 l)).2 ⟨q, hq, l, hl, rfl⟩
      rw [z] at this
      cases this
theorem get_at {d : List (W × Nat)} {k : W} (h : k ∈ d.map Prod.fst) : valV (encN d) (keyW k) = some (V.int (getN d k : Int)) := by
  rw [val_encN]
  unfold getN
  obtain ⟨p, hp, e⟩ := List.mem_map.mp h
  cases f : d.find? fun p => decide (p.1 = k) with
  | none =>
    rw [List.find?_eq_none] at f
    exact absurd (decide_eq_true e) (f p hp)
  | some q => rfl
def spCW (K : PySem.W.Frag) : Sp := fun vs H Q _ => ∃ (o : Addr) (a b c : Nat) (u v : W), vs = [.ref o, .str (wS u), .str (wS v)] ∧ Og K H o a b c ∧ u.length ≤ 60 ∧ v.length ≤ 60 ∧ (nfw a b c (u.reverse ++ v)).length ≤ 14 ∧
  ∀ H', Same H H' → Q (.int (cw a b c (nfw a b c (u.reverse ++ v)) : Nat)) H'
theorem ok_count_ways (T : Txt K mg cx) : FK.Has P w K mg base (L2.CX P w) 9 "count_ways" ["orders", "one", "other"] (spCW K) := by
  have H_check_orders := ok_check_orders (P := P) (w := w) (base := base) T
  have H_check_words := ok_check_words (P := P) (w := w) (base := base) T
  have H_Floor_init := ok_Floor_init (P := P) (w := w) (mg := mg) (base := base) T
  have H_way_between := ok_way_between (P := P) (w := w) (base := base) T
  have H_numbers_below := ok_numbers_below (P := P) (w := w) (base := base) T
  refine T.d_count_ways.okX sc_count_ways (fun vs H Q E h => ?_) (fun f cdv A outer s H vs Q E hr h => ?_)
  · obtain ⟨o, a, b, c, u, t, rfl, _⟩ := h
    rfl
  · obtain ⟨o, a, b, c, u, t, rfl, g, hu, ht, hw0, q⟩ := h
    refine ⟨_, (pss_cons (ps_expr (FK.pe_h (E := E) H_check_orders (hr.mono (by decide)) (passes_call (takes_of rfl rfl rfl rfl) (fun _ _ _ _ h => h)) (pa_cons (pv 0) pa_nil)))
  (pss_cons (ps_expr (FK.pe_h (E := E) H_check_words (hr.mono (by decide)) (passes_call (takes_of rfl rfl rfl rfl) (fun _ _ _ _ h => h)) (pa_cons (pe_lst (pa_cons (pv 1) (pa_cons (pv 2) pa_nil))) pa_nil)))
  (pss_cons (ps_set (i := 3) sc_count_ways.nd rfl (Or.inl rfl) (by exact (FK.pe_i (E := E0) H_Floor_init (hr.mono (by decide)) T.g_Floor pass0 (pa_cons (pv 0) pa_nil))))
  (pss_cons (ps_set (i := 4) sc_count_ways.nd rfl (Or.inl rfl) (by exact (FK.pe_h (E := E0) H_way_between (hr.mono (by decide)) pass0 (pa_cons (pv 3) (pa_cons (pv 1) (pa_cons (pv 2) pa_nil))))))
  (pss_cons (ps_set (i := 5) sc_count_ways.nd rfl (Or.inl rfl) (by exact (pe_disp (pps_cons (pv 4) pe_int pps_nil) (by rfl) (by rfl) (fun z => by cases z) (by decide))))
  (pss_cons (ps_for (passes_of rfl) rfl (pi_range1 rfl T.n_range (pa_cons (pe_callB call_len_str (by rfl) T.n_len PySem.boot_len (pa_cons (pv 4) pa_nil)) pa_nil)) (pg_name (i := 6) sc_count_ways.nd rfl (Or.inl rfl))
  (pss_one (ps_set (i := 5) sc_count_ways.nd rfl (Or.inl rfl) (by exact (FK.pe_h (E := E0) H_numbers_below (hr.mono (by decide)) pass0 (pa_cons (pv 3) (pa_cons (pv 5) pa_nil)))))))
  (pss_one (ps_ret (pe_dget (hu_of hr) (pv 5) pe_str (fun _ _ => rfl)))))))))), ?_⟩
    simp only [tSeq, tIfS, tOr, tAnd, tB, tTest, tCB, tCons, tVar, tC, tNil, tNot, tNotV, tRet, tRetN, tNext, tBreak, tOrV, tAndV, tOp, tUn, rEq, rNe, tChain, rI0, rI, rU, tAsg, gName, tDrop, tAug, ipI, tIf, tCall, tCallS, tLst, tTup, tBM, tBM0, rAppend, rExtend, rPop, rReverse, tyV, rIxL, rIxT, rIxS, rIsB, rNotB, L2.start, List.map_cons, List.map_nil, List.length_cons, List.length_nil, List.replicate, List.cons_append, List.nil_append, List.append_nil, List.getElem?_cons_zero, List.getElem?_cons_succ, List.set_cons_zero, List.set_cons_succ, Nat.reduceAdd, Nat.reduceSub, Option.some.injEq, exists_eq_left', exists_eq_left, V.int.injEq, V.bl.injEq, V.str.injEq, V.ref.injEq, List.cons.injEq, and_true, true_and, and_assoc, reduceCtorEq, false_and, exists_false, or_false, false_or, exists_and_left, exists_const, scal, Int.reduceLT, Int.reduceLE, Int.reduceSub, Int.reduceAdd, Int.reduceNeg, if_true, if_false, tMeth, tMake]
    have okU : okWord (wS u) 60 = true := okWord_wS (by omega)
    have okT : okWord (wS t) 60 = true := okWord_wS (by omega)
    refine ⟨o, [(a : Int), (b : Int), (c : Int)], rfl, SqT.of g.ob, (fun e => by rw [g.ok] at e; cases e), fun _ H1 s1 => ⟨by show 2 ≤ sizeLine; decide, fun p hp => ⟨p, [wS u, wS t], rfl, SqL.of upd_same, ?_, (fun e => by simp [okU, okT] at e), fun _ H2 s2 => ?_⟩⟩⟩
    · intro z hz
      rcases List.mem_cons.mp hz with rfl | hz
      · exact szw (by omega)
      · rw [List.mem_singleton.mp hz]; exact szw (by omega)
    have s03 := (s1.trans (FK.same_new hp)).trans s2
    refine fun f dx hf hdx ne => ⟨f, o, dx, rfl, upd_same, fun d H4 hd e1 e2 kp => ⟨rfl, ?_⟩⟩
    obtain ⟨F, s4, hd2⟩ := floor_new (SqT.of (g.same s03).ob) g.ha g.hb g.hc hf hdx hd e1 e2 kp
    refine ⟨f, o, d, a, b, c, u, t, rfl, F, by omega, fun H5 F5 b5 => ?_⟩
    generalize hw1 : nfw a b c (u.reverse ++ t) = w0 at *
    have n0 : Nw a b c w0 := by
      have h := nfw_ok g.ha g.hb g.hc (w := u.reverse ++ t) (by simp; omega)
      rw [hw1] at h
      show nfw a b c w0 = w0
      rw [← hw1]
      rw [nfw_congr g.ha g.hb g.hc (v := u.reverse ++ t) (by rw [hw1]; omega) (by simp; omega) (by rw [hw1]; exact h.1.symm)]
    simp only [tSeq, tIfS, tOr, tAnd, tB, tTest, tCB, tCons, tVar, tC, tNil, tNot, tNotV, tRet, tRetN, tNext, tBreak, tOrV, tAndV, tOp, tUn, rEq, rNe, tChain, rI0, rI, rU, tAsg, gName, tDrop, tAug, ipI, tIf, tCall, tCallS, tLst, tTup, tBM, tBM0, rAppend, rExtend, rPop, rReverse, tyV, rIxL, rIxT, rIxS, rIsB, rNotB, L2.start, List.map_cons, List.map_nil, List.length_cons, List.length_nil, List.replicate, List.cons_append, List.nil_append, List.append_nil, List.getElem?_cons_zero, List.getElem?_cons_succ, List.set_cons_zero, List.set_cons_succ, Nat.reduceAdd, Nat.reduceSub, Option.some.injEq, exists_eq_left', exists_eq_left, V.int.injEq, V.bl.injEq, V.str.injEq, V.ref.injEq, List.cons.injEq, and_true, true_and, and_assoc, reduceCtorEq, false_and, exists_false, or_false, false_or, exists_and_left, exists_const, scal, Int.reduceLT, Int.reduceLE, Int.reduceSub, Int.reduceAdd, Int.reduceNeg, if_true, if_false, tDisp]
    refine fun p5 hp5 => ?_
    simp only [tSeq, tIfS, tOr, tAnd, tB, tTest, tCB, tCons, tVar, tC, tNil, tNot, tNotV, tRet, tRetN, tNext, tBreak, tOrV, tAndV, tOp, tUn, rEq, rNe, tChain, rI0, rI, rU, tAsg, gName, tDrop, tAug, ipI, tIf, tCall, tCallS, tLst, tTup, tBM, tBM0, rAppend, rExtend, rPop, rReverse, tyV, rIxL, rIxT, rIxS, rIsB, rNotB, L2.start, List.map_cons, List.map_nil, List.length_cons, List.length_nil, List.replicate, List.cons_append, List.nil_append, List.append_nil, List.getElem?_cons_zero, List.getElem?_cons_succ, List.set_cons_zero, List.set_cons_succ, Nat.reduceAdd, Nat.reduceSub, Option.some.injEq, exists_eq_left', exists_eq_left, V.int.injEq, V.bl.injEq, V.str.injEq, V.ref.injEq, List.cons.injEq, and_true, true_and, and_assoc, reduceCtorEq, false_and, exists_false, or_false, false_or, exists_and_left, exists_const, scal, Int.reduceLT, Int.reduceLE, Int.reduceSub, Int.reduceAdd, Int.reduceNeg, if_true, if_false, tPairs]
    refine ⟨upd_same, [(keyW w0, V.int 1)], rfl, by show 1 ≤ 15; decide, ?_⟩
    have np5 := F5.ned hp5
    have b6 : FK.But d H4 (upd (upd H5 p5 (.dK [])) p5 (.dK (mergeK [] [(keyW w0, V.int 1)]))) := fun x v h1 e => by
      have h2 := b5 x v h1 e
      have h3 : x ≠ p5 := fun z => by rw [z, hp5] at h2; cases h2
      rw [upd_ne h3, upd_ne h3]
      exact h2
    have F6 : FlAt K cx.Floor (upd (upd H5 p5 (.dK [])) p5 (.dK (mergeK [] [(keyW w0, V.int 1)]))) f o d a b c := (F5.same (FK.same_new (o := HO.dK []) hp5)).frX upd_same np5 (fun _ h => nomatch h) (fun _ _ h => nomatch h) (fun _ _ _ h => nomatch h) (fun b' u' e' hb => by rw [upd_ne hb]; exact e')
    refine FK.rd_for (J := Itr 0 w0.length) (fun R r => by simp only [tSeq, tIfS, tOr, tAnd, tB, tTest, tCB, tCons, tVar, tC, tNil, tNot, tNotV, tRet, tRetN, tNext, tBreak, tOrV, tAndV, tOp, tUn, rEq, rNe, tChain, rI0, rI, rU, tAsg, gName, tDrop, tAug, ipI, tIf, tCall, tCallS, tLst, tTup, tBM, tBM0, rAppend, rExtend, rPop, rReverse, tyV, rIxL, rIxT, rIxS, rIsB, rNotB, L2.start, List.map_cons, List.map_nil, List.length_cons, List.length_nil, List.replicate, List.cons_append, List.nil_append, List.append_nil, List.getElem?_cons_zero, List.getElem?_cons_succ, List.set_cons_zero, List.set_cons_succ, Nat.reduceAdd, Nat.reduceSub, Option.some.injEq, exists_eq_left', exists_eq_left, V.int.injEq, V.bl.injEq, V.str.injEq, V.ref.injEq, List.cons.injEq, and_true, true_and, and_assoc, reduceCtorEq, false_and, exists_false, or_false, false_or, exists_and_left, exists_const, scal, Int.reduceLT, Int.reduceLE, Int.reduceSub, Int.reduceAdd, Int.reduceNeg, if_true, if_false, iRng1]; exact ⟨by rw [wS_len]; exact zl _ (by omega), by rw [wS_len]; omega, by rw [wS_len]; omega, by rw [wS_len]; exact r⟩) walk_nat
      (fun i σ H' => ∃ (D : Addr) (v6 : Option V), σ = [some (.ref o), some (.str (wS (u))), some (.str (wS (t))), some (.ref f), some (.str (wS (w0))), some (.ref D), v6] ∧ FlAt K cx.Floor H' f o d a b c ∧ D ≠ d ∧ H' D = some (.dK (encN (itN a b c [(w0, 1)] i))) ∧ FK.But d H4 H')
      ⟨p5, none, rfl, F6, np5, upd_same, b6⟩ (fun _ _ _ _ _ => trivial) ?_ ?_
    · rintro i x' σ Ha Hb hi ⟨D, v6, rfl, Fa, nD, eD, ba⟩ ⟨rfl, hx⟩
      cases hx
      obtain ⟨h1, h2, h3⟩ := lv_itN g.ha g.hb g.hc n0 hw0 i (by omega)
      simp only [tSeq, tIfS, tOr, tAnd, tB, tTest, tCB, tCons, tVar, tC, tNil, tNot, tNotV, tRet, tRetN, tNext, tBreak, tOrV, tAndV, tOp, tUn, rEq, rNe, tChain, rI0, rI, rU, tAsg, gName, tDrop, tAug, ipI, tIf, tCall, tCallS, tLst, tTup, tBM, tBM0, rAppend, rExtend, rPop, rReverse, tyV, rIxL, rIxT, rIxS, rIsB, rNotB, L2.start, List.map_cons, List.map_nil, List.length_cons, List.length_nil, List.replicate, List.cons_append, List.nil_append, List.append_nil, List.getElem?_cons_zero, List.getElem?_cons_succ, List.set_cons_zero, List.set_cons_succ, Nat.reduceAdd, Nat.reduceSub, Option.some.injEq, exists_eq_left', exists_eq_left, V.int.injEq, V.bl.injEq, V.str.injEq, V.ref.injEq, List.cons.injEq, and_true, true_and, and_assoc, reduceCtorEq, false_and, exists_false, or_false, false_or, exists_and_left, exists_const, scal, Int.reduceLT, Int.reduceLE, Int.reduceSub, Int.reduceAdd, Int.reduceNeg, if_true, if_false]
      have h4 : 3 ^ i ≤ 3 ^ 13 := Nat.pow_le_pow_right (by decide) (by omega)
      refine ⟨f, o, d, D, a, b, c, _, rfl, Fa, nD, eD, fun p hp => ⟨(h1 p hp).1, by have := (h1 p hp).2; omega⟩, Nat.le_trans h3 (Nat.le_trans h4 (by show 3 ^ 13 ≤ 4000000; decide)), fun D' H' hD' eD' F' b' => ⟨D', rfl, F', Fa.ned hD', eD', ba.trans b'⟩⟩
    · rintro σ Ha ⟨D, v6, rfl, Fa, nD, eD, ba⟩
      obtain ⟨h1, h2, h3⟩ := lv_itN g.ha g.hb g.hc n0 hw0 w0.length (Nat.le_refl _)
      have he : ([] : W) ∈ (itN a b c [(w0, 1)] w0.length).map Prod.fst := by
        obtain ⟨q, hq⟩ := List.exists_mem_of_ne_nil _ h2
        have h5 := (h1 q hq).2
        exact List.mem_map.mpr ⟨q, hq, List.eq_nil_of_length_eq_zero (by omega)⟩
      simp only [tSeq, tIfS, tOr, tAnd, tB, tTest, tCB, tCons, tVar, tC, tNil, tNot, tNotV, tRet, tRetN, tNext, tBreak, tOrV, tAndV, tOp, tUn, rEq, rNe, tChain, rI0, rI, rU, tAsg, gName, tDrop, tAug, ipI, tIf, tCall, tCallS, tLst, tTup, tBM, tBM0, rAppend, rExtend, rPop, rReverse, tyV, rIxL, rIxT, rIxS, rIsB, rNotB, L2.start, List.map_cons, List.map_nil, List.length_cons, List.length_nil, List.replicate, List.cons_append, List.nil_append, List.append_nil, List.getElem?_cons_zero, List.getElem?_cons_succ, List.set_cons_zero, List.set_cons_succ, Nat.reduceAdd, Nat.reduceSub, Option.some.injEq, exists_eq_left', exists_eq_left, V.int.injEq, V.bl.injEq, V.str.injEq, V.ref.injEq, List.cons.injEq, and_true, true_and, and_assoc, reduceCtorEq, false_and, exists_false, or_false, false_or, exists_and_left, exists_const, scal, Int.reduceLT, Int.reduceLE, Int.reduceSub, Int.reduceAdd, Int.reduceNeg, if_true, if_false]
      have h6 := DGet.k (k := keyW []) eD
      rw [get_at he] at h6
      exact ⟨_, rfl, _, _, rfl, h6, q Ha (s03.trans (but_same s4 hd2 ba))⟩

end
end K19

namespace K19
open PySem PySem.Spec PyProof.Rows L2 Cox
section
variable {P : Program} {w : World} {K : PySem.W.Frag} {mg : Str → Option Value} {base : Heap} {cx : Xs}
theorem split3 : ∀ (l : List W), (∀ w ∈ l, w ≠ []) → l.length = (l.filter fun w => decide (w.head? = some 0)).length + (l.filter fun w => decide (w.head? = some 1)).length + (l.filter fun w => decide (w.head? = some 2)).length
  | [], _ => rfl
  | [] :: l, h => absurd rfl (h [] List.mem_cons_self)
  | (a :: r) :: l, h => by
    have ih := split3 l fun w hw => h w (List.mem_cons_of_mem _ hw)
    have e : a = 0 ∨ a = 1 ∨ a = 2 := by
      match a with
      | 0 => exact .inl rfl
      | 1 => exact .inr (.inl rfl)
      | 2 => exact .inr (.inr rfl)
    rcases e with rfl | rfl | rfl <;> simp [List.filter_cons] <;> omega
theorem cnt3 : ∀ (m : Nat) (l : List W), l.Nodup → (∀ w ∈ l, w.length = m) → l.length ≤ 3 ^ m
  | 0, l, nd, h => by
    have h0 : ∀ w ∈ l, w = [] := fun w hw => List.eq_nil_of_length_eq_zero (h w hw)
    match l, nd, h0 with
    | [], _, _ => exact Nat.zero_le _
    | [_], _, _ => exact Nat.le_refl _
    | x :: y :: r, nd, h0 =>
      have h1 := h0 x List.mem_cons_self
      have h2 := h0 y (List.mem_cons_of_mem _ List.mem_cons_self)
      have h3 := (List.pairwise_cons.mp nd).1 y List.mem_cons_self
      exact absurd (h1.trans h2.symm) h3
  | m + 1, l, nd, h => by
    have hs := split3 l fun w hw e => by have := h w hw; rw [e] at this; cases this
    have one : ∀ i : Fin 3, (l.filter fun w => decide (w.head? = some i)).length ≤ 3 ^ m := fun i => by
      have hm : ∀ w ∈ l.filter (fun w => decide (w.head? = some i)), w = i :: w.tail ∧ w.tail.length = m := fun w hw => by
        obtain ⟨h1, h2⟩ := List.mem_filter.mp hw
        have h3 := h w h1
        have h2 := of_decide_eq_true h2
        match w, h2, h3 with
        | a :: r, h2, h3 =>
          have e : a = i := Option.some.inj h2
          subst e
          exact ⟨rfl, by simpa using h3⟩
      have := cnt3 m ((l.filter fun w => decide (w.head? = some i)).map List.tail) (List.pairwise_map.mpr ((List.Pairwise.filter _ nd).imp_of_mem fun {x y} hx hy hne e => hne (by rw [(hm x hx).1, (hm y hy).1, e]))) (fun w hw => by
        obtain ⟨x, hx, rfl⟩ := List.mem_map.mp hw
        exact (hm x hx).2)
      rwa [List.length_map] at this
    have h0 := one 0
    have h1 := one 1
    have h2 := one 2
    rw [Nat.pow_succ]
    omega
def encT (vf : W → W) (ks : List W) : List (Key × V) := ks.map fun k => (keyW k, V.str (wS (vf k)))
theorem val_encT (vf : W → W) (k : W) : ∀ ks : List W, valV (encT vf ks) (keyW k) = if k ∈ ks then some (V.str (wS (vf k))) else none
  | [] => rfl
  | t :: ks => by
    show valV ((keyW t, V.str (wS (vf t))) :: encT vf ks) (keyW k) = _
    by_cases c : t = k
    · subst c
      rw [valV_pos (p := (keyW t, V.str (wS (vf t)))) rfl, if_pos List.mem_cons_self]
    · rw [valV_neg (p := (keyW t, V.str (wS (vf t)))) (fun z => c (keyW_inj _ _ z)), val_encT vf k ks]
      by_cases c2 : k ∈ ks
      · rw [if_pos c2, if_pos (List.mem_cons_of_mem _ c2)]
      · rw [if_neg c2, if_neg (fun z => by
          rcases List.mem_cons.mp z with e | e
          · exact c e.symm
          · exact c2 e)]
theorem put_encT {vf : W → W} {ks : List W} {k : W} (h : k ∉ ks) : putK (encT vf ks) (keyW k) (V.str (wS (vf k))) = encT vf (FK.addS ks k) := by
  rw [putK_new _ (by rw [val_encT, if_neg h])]
  unfold FK.addS
  rw [if_neg h]
  unfold encT
  rw [List.map_append]
  rfl
def oneB (a b c : Nat) (u : W) (acc : List W) (ls : W) : List W := ls.foldl (fun acc l => FK.addS acc (bel a b c u l)) acc
def stepB (a b c : Nat) (ks : List W) : List W := ks.foldl (fun acc u => oneB a b c u acc (endw a b c u)) []
theorem oneB_take (a b c : Nat) (u : W) (acc : List W) {ls : W} {i : Nat} {l : Fin 3} (h : ls[i]? = some l) : oneB a b c u acc (ls.take (i + 1)) = FK.addS (oneB a b c u acc (ls.take i)) (bel a b c u l) := by
  unfold oneB
  rw [List.take_add_one, h, List.foldl_append]
  rfl
theorem stepB_take (a b c : Nat) (d : List W) {j : Nat} {p : W} (h : d[j]? = some p) : stepB a b c (d.take (j + 1)) = oneB a b c p (stepB a b c (d.take j)) (endw a b c p) := by
  unfold stepB
  rw [List.take_add_one, h, List.foldl_append]
  rfl
theorem oneB_props (a b c : Nat) (u : W) : ∀ (ls : W) (acc : List W), (oneB a b c u acc ls).length ≤ acc.length + ls.length ∧ (acc.Nodup → (oneB a b c u acc ls).Nodup) ∧ ∀ x, x ∈ oneB a b c u acc ls ↔ x ∈ acc ∨ ∃ l ∈ ls, x = bel a b c u l
  | [], acc => ⟨Nat.le_refl _, id, fun x => by simp [oneB]⟩
  | l :: ls, acc => by
    obtain ⟨h1, h2, h3⟩ := oneB_props a b c u ls (FK.addS acc (bel a b c u l))
    have h4 := FK.len_addS (l := acc) (a := bel a b c u l)
    refine ⟨?_, fun nd => h2 (FK.nd_addS nd), fun x => ?_⟩
    · show (oneB a b c u (FK.addS acc (bel a b c u l)) ls).length ≤ _
      rw [List.length_cons]
      omega
    · show x ∈ oneB a b c u (FK.addS acc (bel a b c u l)) ls ↔ _
      rw [h3 x, FK.mem_addS]
      constructor
      · rintro ((h | h) | ⟨l', h1, h2⟩)
        · exact .inl h
        · exact .inr ⟨l, List.mem_cons_self, h⟩
        · exact .inr ⟨l', List.mem_cons_of_mem _ h1, h2⟩
      · rintro (h | ⟨l', h1, h2⟩)
        · exact .inl (.inl h)
        · rcases List.mem_cons.mp h1 with h1 | h1
          · exact .inl (.inr (by rw [h2, h1]))
          · exact .inr ⟨l', h1, h2⟩
theorem stepB_props (a b c : Nat) (d : List W) : ∀ j, j ≤ d.length → (stepB a b c (d.take j)).length ≤ 3 * j ∧ (stepB a b c (d.take j)).Nodup ∧ ∀ x, x ∈ stepB a b c (d.take j) ↔ ∃ p ∈ d.take j, ∃ l ∈ endw a b c p, x = bel a b c p l
  | 0, _ => ⟨by simp [stepB], by simp [stepB], fun x => by simp [stepB]⟩
  | j + 1, h => by
    have hj := List.getElem?_eq_getElem (by omega : j < d.length)
    obtain ⟨h1, h2, h3⟩ := stepB_props a b c d j (by omega)
    obtain ⟨k1, k2, k3⟩ := oneB_props a b c d[j] (endw a b c d[j]) (stepB a b c (d.take j))
    have h4 := endw_le a b c d[j]
    rw [stepB_take a b c d hj]
    refine ⟨by omega, k2 h2, fun x => ?_⟩
    rw [k3 x, h3 x, List.take_add_one, hj]
    simp only [Option.toList_some, List.mem_append, List.mem_singleton]
    constructor
    · rintro (⟨p, h1, h2⟩ | h)
      · exact ⟨p, .inl h1, h2⟩
      · exact ⟨_, .inr rfl, h⟩
    · rintro ⟨p, h1 | rfl, h2⟩
      · exact .inl ⟨p, h1, h2⟩
      · exact .inr h2
def spTN (K : PySem.W.Frag) (C : Addr) : Sp := fun vs H Q _ => ∃ (f o d D : Addr) (a b c : Nat) (e : W) (ks : List W), vs = [.ref f, .ref D] ∧ FlAt K C H f o d a b c ∧ D ≠ d ∧ H D = some (.dK (encT (fun u => nfw a b c (e ++ u)) ks)) ∧ e.length ≤ 60 ∧ (∀ u ∈ ks, Nw a b c u ∧ u.length ≤ 60) ∧ ks.length ≤ 4000000 ∧
  ∀ D' H', H D' = none → H' D' = some (.dK (encT (fun u => nfw a b c (e ++ u)) (stepB a b c ks))) → FlAt K C H' f o d a b c → FK.But d H H' → Q (.ref D') H'
theorem ok_tiles_nearer (T : Txt K mg cx) : FK.Has P w K mg base CX0 7 "tiles_nearer" ["floor", "tiles"] (spTN K cx.Floor) := by
  have H_Floor_ends := ok_Floor_ends (P := P) (w := w) (mg := mg) (base := base) T
  have H_Floor_below := ok_Floor_below (P := P) (w := w) (mg := mg) (base := base) T
  have H_Floor_normal := ok_Floor_normal (P := P) (w := w) (mg := mg) (base := base) T
  refine T.d_tiles_nearer.ok sc_tiles_nearer (fun vs H Q E h => ?_) (fun f cdv A outer s H vs Q E hr h => ?_)
  · obtain ⟨f, o, d, D, a, b, c, e, ks, rfl, _⟩ := h
    rfl
  · obtain ⟨f, o, d, D, a, b, c, e, ks, rfl, F, nDd, eD, le, hk, hl, q⟩ := h
    generalize hvf : (fun u => nfw a b c (e ++ u)) = vf at *
    refine ⟨_, (pss_cons (ps_set (i := 2) sc_tiles_nearer.nd rfl (Or.inl rfl) pe_dnewK)
  (pss_cons (ps_lock (ps_for PassesOwn.never rfl (pi_items (pv 1)) (pg_tup rfl (pgs_cons (pg_name (i := 3) sc_tiles_nearer.nd rfl (Or.inl rfl)) (pgs_cons (pg_name (i := 4) sc_tiles_nearer.nd rfl (Or.inl rfl)) pgs_nil)))
  (pss_one (ps_for PassesOwn.never rfl (pi_str (FK.pe_m (E := E0) (pv 0) T.cl_Floor H_Floor_ends (hr.mono (by decide)) pass0 (pa_cons (pv 3) pa_nil))) (pg_name (i := 5) sc_tiles_nearer.nd rfl (Or.inl rfl))
  (pss_cons (ps_set (i := 6) sc_tiles_nearer.nd rfl (Or.inl rfl) (by exact (FK.pe_m (E := E0) (pv 0) T.cl_Floor H_Floor_below (hr.mono (by decide)) pass0 (pa_cons (pv 3) (pa_cons (pv 5) pa_nil)))))
  (pss_one (ps_if (pt_cmp (pc_dnotin (hu_of hr) (pv 6) (pv 2))) (pss_one (ps_dput (hu_of hr) (pv 2) (pv 6) (FK.pe_m (E := E0) (pv 0) T.cl_Floor H_Floor_normal (hr.mono (by decide)) pass0 (pa_cons (pe_op op_add_str (pv 4) (pv 5)) pa_nil)) rfl)) pss_nil)))))))
  (pss_one (ps_ret (pv 2))))), ?_⟩
    simp only [tSeq, tIfS, tOr, tAnd, tB, tTest, tCB, tCons, tVar, tC, tNil, tNot, tNotV, tRet, tRetN, tNext, tBreak, tOrV, tAndV, tOp, tUn, rEq, rNe, tChain, rI0, rI, rU, tAsg, gName, tDrop, tAug, ipI, tIf, tCall, tCallS, tLst, tTup, tBM, tBM0, rAppend, rExtend, rPop, rReverse, tyV, rIxL, rIxT, rIxS, rIsB, rNotB, L2.start, List.map_cons, List.map_nil, List.length_cons, List.length_nil, List.replicate, List.cons_append, List.nil_append, List.append_nil, List.getElem?_cons_zero, List.getElem?_cons_succ, List.set_cons_zero, List.set_cons_succ, Nat.reduceAdd, Nat.reduceSub, Option.some.injEq, exists_eq_left', exists_eq_left, V.int.injEq, V.bl.injEq, V.str.injEq, V.ref.injEq, List.cons.injEq, and_true, true_and, and_assoc, reduceCtorEq, false_and, exists_false, or_false, false_or, exists_and_left, exists_const, scal, Int.reduceLT, Int.reduceLE, Int.reduceSub, Int.reduceAdd, Int.reduceNeg, if_true, if_false, tMeth]
    refine fun D1 hD1 => ?_
    have nD1 : D1 ≠ d := F.ned hD1
    have nD1D : D1 ≠ D := fun z => by rw [z, eD] at hD1; cases hD1
    have eD' : upd H D1 (.dK []) D = some (HO.dK (encT vf ks)) := by rw [upd_ne nD1D.symm]; exact eD
    refine ⟨D, _, eD', trivial, fun od => ?_⟩
    have F1 := F.same (FK.same_new (o := HO.dK []) hD1)
    have FZ := F1.frX (H' := upd (upd H D1 (.dK [])) D (.frz od (.dK (encT vf ks)))) eD' nDd (fun _ h => nomatch h) (fun _ _ h => nomatch h) (fun _ _ _ h => nomatch h) (fun b' u' e' hb => by rw [upd_ne hb]; exact e')
    refine FK.rd_for (J := Iti D od (encT vf ks)) (H1 := upd (upd H D1 (.dK [])) D (.frz od (.dK (encT vf ks)))) (fun R r => ⟨_, rfl, D, od, _, rfl, upd_same, r⟩) walk_items
      (fun j σ H' => ∃ (v3 v4 v5 v6 : Option V), σ = [some (.ref f), some (.ref D), some (.ref D1), v3, v4, v5, v6] ∧ FlAt K cx.Floor H' f o d a b c ∧ H' D1 = some (.dK (encT vf (stepB a b c (ks.take j)))) ∧ H' D = some (.frz od (.dK (encT vf ks))) ∧ (∀ x v, x ≠ d → x ≠ D → H x = some v → H' x = some v))
      ⟨none, none, none, none, rfl, FZ, by rw [upd_ne nD1D, upd_same]; rfl, upd_same, fun x v h1 h2 e => by rw [upd_ne h2]; exact FK.same_new hD1 _ _ e⟩ (fun i σ H' _ ⟨_, _, _, _, _, _, _, h, _⟩ => h) ?_ ?_
    · rintro j x' σ Ha Hb hj ⟨v3, v4, v5, v6, rfl, Fa, e1, e2, ka⟩ ⟨T1, x1, y1, rfl, hT1, rfl, hx1, hy1⟩
      have lE : (encT vf ks).length = ks.length := List.length_map _
      rw [lE] at hj
      have hkj := List.getElem?_eq_getElem hj
      have eE : (encT vf ks)[j]? = some (keyW ks[j], V.str (wS (vf ks[j]))) := by
        unfold encT
        rw [List.getElem?_map, hkj]
        rfl
      have hx1 : (encT vf ks)[j]?.map (fun kv => kV kv.1) = some x1 := hx1
      have hy1 : (encT vf ks)[j]?.map Prod.snd = some y1 := hy1
      rw [eE] at hx1 hy1
      cases hx1
      cases hy1
      obtain ⟨nu, lu⟩ := hk _ (List.getElem_mem hj)
      have Fb := Fa.same (FK.same_new (o := HO.tup [kV (keyW ks[j]), V.str (wS (vf ks[j]))]) hT1)
      refine ⟨T1, _, rfl, SqT.of upd_same, rfl, ?_⟩
      generalize hu0 : ks[j] = u at *
      refine ⟨_, _, rfl, ?_⟩
      refine ⟨_, _, rfl, ?_⟩
      refine ⟨rfl, ?_⟩
      refine FK.for_str ?_
      simp only [tSeq, tIfS, tOr, tAnd, tB, tTest, tCB, tCons, tVar, tC, tNil, tNot, tNotV, tRet, tRetN, tNext, tBreak, tOrV, tAndV, tOp, tUn, rEq, rNe, tChain, rI0, rI, rU, tAsg, gName, tDrop, tAug, ipI, tIf, tCall, tCallS, tLst, tTup, tBM, tBM0, rAppend, rExtend, rPop, rReverse, tyV, rIxL, rIxT, rIxS, rIsB, rNotB, L2.start, List.map_cons, List.map_nil, List.length_cons, List.length_nil, List.replicate, List.cons_append, List.nil_append, List.append_nil, List.getElem?_cons_zero, List.getElem?_cons_succ, List.set_cons_zero, List.set_cons_succ, Nat.reduceAdd, Nat.reduceSub, Option.some.injEq, exists_eq_left', exists_eq_left, V.int.injEq, V.bl.injEq, V.str.injEq, V.ref.injEq, List.cons.injEq, and_true, true_and, and_assoc, reduceCtorEq, false_and, exists_false, or_false, false_or, exists_and_left, exists_const, scal, Int.reduceLT, Int.reduceLE, Int.reduceSub, Int.reduceAdd, Int.reduceNeg, if_true, if_false, tMeth]
      obtain ⟨dx, e4⟩ := Fb.ob
      refine ⟨dx, _, e4, fldsF_no _ _ (by decide +kernel) (by decide +kernel), f, o, d, a, b, c, u, rfl, Fb, by omega, fun Hc Fc bc => ⟨_, rfl, ?_⟩⟩
      have e1b : upd Ha T1 (.tup [kV (keyW u), V.str (wS (vf u))]) D1 = some (.dK (encT vf (stepB a b c (ks.take j)))) := FK.same_new hT1 _ _ e1
      have e2b : upd Ha T1 (.tup [kV (keyW u), V.str (wS (vf u))]) D = some (.frz od (.dK (encT vf ks))) := FK.same_new hT1 _ _ e2
      have lsz : (stepB a b c (ks.take j)).length ≤ 12000000 := by
        have := (stepB_props a b c ks j (by omega)).1
        omega
      have l3 := endw_le a b c u
      refine FK.rd_for (J := Its (wS (endw a b c u))) (H1 := Hc) (fun R r => r) walk_str
        (fun i σ H' => ∃ v5 v6 : Option V, σ = [some (.ref f), some (.ref D), some (.ref D1), some (.str (wS (u))), some (.str (wS ((vf u)))), v5, v6] ∧ FlAt K cx.Floor H' f o d a b c ∧ H' D1 = some (.dK (encT vf (oneB a b c u (stepB a b c (ks.take j)) ((endw a b c u).take i)))) ∧ H' D = some (.frz od (.dK (encT vf ks))) ∧ (∀ x v, x ≠ d → x ≠ D → H x = some v → H' x = some v))
        ⟨v5, v6, rfl, Fc, bc _ _ nD1 e1b, bc _ _ nDd e2b, fun x v h1 h2 e => bc _ _ h1 (FK.same_new hT1 _ _ (ka x v h1 h2 e))⟩ (fun _ _ _ _ _ => trivial) ?_ ?_
      · rintro i x' σ Hd He hi ⟨v5, v6, rfl, Fd, e1d, e2d, kd⟩ ⟨rfl, ch, hch, rfl⟩
        obtain ⟨l, hl0, el0⟩ := wS_at hch
        rw [el0]
        have hl1 := List.mem_of_getElem? hl0
        have hi : i < (endw a b c u).length := by
          have h2 : (wS (endw a b c u)).cps.size = (endw a b c u).length := wS_len _
          omega
        simp only [tSeq, tIfS, tOr, tAnd, tB, tTest, tCB, tCons, tVar, tC, tNil, tNot, tNotV, tRet, tRetN, tNext, tBreak, tOrV, tAndV, tOp, tUn, rEq, rNe, tChain, rI0, rI, rU, tAsg, gName, tDrop, tAug, ipI, tIf, tCall, tCallS, tLst, tTup, tBM, tBM0, rAppend, rExtend, rPop, rReverse, tyV, rIxL, rIxT, rIxS, rIsB, rNotB, L2.start, List.map_cons, List.map_nil, List.length_cons, List.length_nil, List.replicate, List.cons_append, List.nil_append, List.append_nil, List.getElem?_cons_zero, List.getElem?_cons_succ, List.set_cons_zero, List.set_cons_succ, Nat.reduceAdd, Nat.reduceSub, Option.some.injEq, exists_eq_left', exists_eq_left, V.int.injEq, V.bl.injEq, V.str.injEq, V.ref.injEq, List.cons.injEq, and_true, true_and, and_assoc, reduceCtorEq, false_and, exists_false, or_false, false_or, exists_and_left, exists_const, scal, Int.reduceLT, Int.reduceLE, Int.reduceSub, Int.reduceAdd, Int.reduceNeg, if_true, if_false, tMeth, sDPut]
        obtain ⟨dx5, e5⟩ := Fd.ob
        refine ⟨dx5, _, e5, fldsF_no _ _ (by decide +kernel) (by decide +kernel), f, o, d, a, b, c, u, l, rfl, Fd, by omega, nu.red F.ha F.hb F.hc lu, (endw_ok F.ha F.hb F.hc (by omega) l).1 hl1, fun k H6 hk6 e6 F6 b6 => ?_⟩
        rw [bel_left F.ha F.hb F.hc lu nu hl1 hk6 e6]
        have e1f := b6 _ _ nD1 e1d
        have e2f := b6 _ _ nDd e2d
        have lo := (oneB_props a b c u ((endw a b c u).take i) (stepB a b c (ks.take j))).1
        rw [List.length_take] at lo
        have ee := oneB_take a b c u (stepB a b c (ks.take j)) hl0
        generalize hacc : oneB a b c u (stepB a b c (ks.take j)) ((endw a b c u).take i) = acc at *
        generalize hacc2 : oneB a b c u (stepB a b c (ks.take j)) ((endw a b c u).take (i + 1)) = acc2 at *
        have lvu : (vf u).length ≤ 120 := by
          rw [← hvf]
          have h1 := (nfw_ok F.ha F.hb F.hc (w := e ++ u) (by rw [List.length_append]; omega)).2.2.1
          have h2 := ln_self (m := om a b c) (e ++ u)
          rw [List.length_append] at h2
          show (nfw a b c (e ++ u)).length ≤ 120
          omega
        have ev : nfw a b c (vf u ++ [l]) = vf (bel a b c u l) := by
          have h1 := (nfw_ok F.ha F.hb F.hc (w := e ++ u) (by rw [List.length_append]; omega)).1
          have h2 := bel_eqv F.ha F.hb F.hc (a := a) (b := b) (c := c) lu l
          have h3 := bel_len F.ha F.hb F.hc lu nu hl1
          rw [← hvf] at lvu ⊢
          refine nfw_congr F.ha F.hb F.hc (by rw [List.length_append, List.length_singleton]; exact Nat.le_trans (Nat.succ_le_succ lvu) (by decide)) (by rw [List.length_append]; omega) ((h1.symm.right [l]).trans ?_)
          have h4 := h2.left e
          rw [← List.append_assoc] at h4
          exact h4
        simp only [tSeq, tIfS, tOr, tAnd, tB, tTest, tCB, tCons, tVar, tC, tNil, tNot, tNotV, tRet, tRetN, tNext, tBreak, tOrV, tAndV, tOp, tUn, rEq, rNe, tChain, rI0, rI, rU, tAsg, gName, tDrop, tAug, ipI, tIf, tCall, tCallS, tLst, tTup, tBM, tBM0, rAppend, rExtend, rPop, rReverse, tyV, rIxL, rIxT, rIxS, rIsB, rNotB, L2.start, List.map_cons, List.map_nil, List.length_cons, List.length_nil, List.replicate, List.cons_append, List.nil_append, List.append_nil, List.getElem?_cons_zero, List.getElem?_cons_succ, List.set_cons_zero, List.set_cons_succ, Nat.reduceAdd, Nat.reduceSub, Option.some.injEq, exists_eq_left', exists_eq_left, V.int.injEq, V.bl.injEq, V.str.injEq, V.ref.injEq, List.cons.injEq, and_true, true_and, and_assoc, reduceCtorEq, false_and, exists_false, or_false, false_or, exists_and_left, exists_const, scal, Int.reduceLT, Int.reduceLE, Int.reduceSub, Int.reduceAdd, Int.reduceNeg, if_true, if_false, tDNotIn]
        refine ⟨_, DGet.k (k := keyW (bel a b c u l)) e1f, ?_⟩
        rw [val_encT]
        by_cases hm : bel a b c u l ∈ acc
        · have ea : FK.addS acc (bel a b c u l) = acc := by unfold FK.addS; rw [if_pos hm]
          rw [if_pos hm, if_neg (by simp), ee, ea]
          exact ⟨F6, e1f, e2f, fun x v h1 h2 e => b6 _ _ h1 (kd x v h1 h2 e)⟩
        · rw [if_neg hm, if_pos (by simp)]
          obtain ⟨dx7, e7⟩ := F6.ob
          refine ⟨dx7, _, e7, fldsF_no _ _ (by decide +kernel) (by decide +kernel), by rw [wS_len, wS_len]; exact zl _ (by rw [List.length_singleton]; omega), f, o, d, a, b, c, vf u ++ [l], by rw [wS_app], F6, by rw [List.length_append, List.length_singleton]; omega, fun H8 F8 b8 => ?_⟩
          rw [ev]
          have e1g := b8 _ _ nD1 e1f
          refine ⟨_, DPut.k (k := keyW (bel a b c u l)) e1g ?_, F8.frX e1g nD1 (fun _ h => nomatch h) (fun _ _ h => nomatch h) (fun _ _ _ h => nomatch h) (fun b' u' e' hb => by rw [upd_ne hb]; exact e'), ?_, by rw [upd_ne nD1D.symm]; exact b8 _ _ nDd e2f, fun x v h1 h2 e => ?_⟩
          · unfold encT
            rw [List.length_map]
            exact Nat.lt_of_le_of_lt (show acc.length ≤ 12000003 by omega) (by decide)
          · rw [upd_same, put_encT hm, ee]
          · rw [upd_ne (fun z => by rw [z, hD1] at e; cases e)]
            exact b8 _ _ h1 (b6 _ _ h1 (kd x v h1 h2 e))
      · rintro σ Hd ⟨v5, v6, rfl, Fd, e1d, e2d, kd⟩
        rw [show (wS (endw a b c u)).cps.size = (endw a b c u).length from wS_len _, List.take_length] at e1d
        refine ⟨_, _, _, _, rfl, Fd, ?_, e2d, kd⟩
        rw [e1d, stepB_take a b c ks hkj]
    · rintro σ Ha ⟨v3, v4, v5, v6, rfl, Fa, e1, e2, ka⟩
      rw [show (encT vf ks).length = ks.length from List.length_map _, List.take_length] at e1
      refine ⟨e2, ?_⟩
      simp only [tSeq, tIfS, tOr, tAnd, tB, tTest, tCB, tCons, tVar, tC, tNil, tNot, tNotV, tRet, tRetN, tNext, tBreak, tOrV, tAndV, tOp, tUn, rEq, rNe, tChain, rI0, rI, rU, tAsg, gName, tDrop, tAug, ipI, tIf, tCall, tCallS, tLst, tTup, tBM, tBM0, rAppend, rExtend, rPop, rReverse, tyV, rIxL, rIxT, rIxS, rIsB, rNotB, L2.start, List.map_cons, List.map_nil, List.length_cons, List.length_nil, List.replicate, List.cons_append, List.nil_append, List.append_nil, List.getElem?_cons_zero, List.getElem?_cons_succ, List.set_cons_zero, List.set_cons_succ, Nat.reduceAdd, Nat.reduceSub, Option.some.injEq, exists_eq_left', exists_eq_left, V.int.injEq, V.bl.injEq, V.str.injEq, V.ref.injEq, List.cons.injEq, and_true, true_and, and_assoc, reduceCtorEq, false_and, exists_false, or_false, false_or, exists_and_left, exists_const, scal, Int.reduceLT, Int.reduceLE, Int.reduceSub, Int.reduceAdd, Int.reduceNeg, if_true, if_false]
      refine q D1 _ hD1 (by rw [upd_ne nD1D]; exact e1) (Fa.frX e2 nDd (fun _ h => nomatch h) (fun _ _ h => nomatch h) (fun _ _ _ h => nomatch h) (fun b' u' e' hb => by rw [upd_ne hb]; exact e')) fun x v h1 e => ?_
      by_cases h2 : x = D
      · subst h2
        rw [upd_same, ← eD, e]
      · rw [upd_ne h2]
        exact ka x v h1 h2 e

end
end K19

namespace K19
open PySem PySem.Spec PyProof.Rows L2 Cox
section
variable {P : Program} {w : World} {K : PySem.W.Frag} {mg : Str → Option Value} {base : Heap} {cx : Xs}
def itB (a b c : Nat) (ks : List W) : Nat → List W
  | 0 => ks
  | n + 1 => stepB a b c (itB a b c ks n)
def fndB (a b c : Nat) (ks : List W) (n : Nat) : List W := (List.range n).flatMap fun i => itB a b c ks i
theorem fndB_succ (a b c : Nat) (ks : List W) (n : Nat) : fndB a b c ks (n + 1) = fndB a b c ks n ++ itB a b c ks n := by
  unfold fndB
  rw [List.range_succ, List.flatMap_append]
  simp
/-- all tiles on the shortest ways, as ways -/
def allB (a b c : Nat) (w0 : W) : List W := fndB a b c [w0] (w0.length + 1)
theorem lv_itB {a b c : Nat} (ha : okOrd a) (hb : okOrd b) (hc : okOrd c) {w0 : W} (n0 : Nw a b c w0) (l0 : w0.length ≤ 14) : ∀ n, n ≤ w0.length →
    (∀ u ∈ itB a b c [w0] n, Nw a b c u ∧ u.length + n = w0.length) ∧ itB a b c [w0] n ≠ [] ∧ (itB a b c [w0] n).length ≤ 3 ^ n ∧ (itB a b c [w0] n).Nodup
  | 0, _ => ⟨fun p hp => by rw [List.mem_singleton.mp hp]; exact ⟨n0, rfl⟩, by simp [itB], by simp [itB], by simp [itB]⟩
  | n + 1, h => by
    obtain ⟨h1, h2, h3, _⟩ := lv_itB ha hb hc n0 l0 n (by omega)
    obtain ⟨k1, k2, k3⟩ := stepB_props a b c (itB a b c [w0] n) _ (Nat.le_refl _)
    rw [List.take_length] at k1 k2 k3
    show (∀ p ∈ stepB a b c (itB a b c [w0] n), _) ∧ stepB a b c (itB a b c [w0] n) ≠ [] ∧ (stepB a b c (itB a b c [w0] n)).length ≤ _ ∧ (stepB a b c (itB a b c [w0] n)).Nodup
    refine ⟨fun p hp => ?_, fun z => ?_, by rw [Nat.pow_succ]; omega, k2⟩
    · obtain ⟨q, hq, l, hl, e⟩ := (k3 p).1 hp
      obtain ⟨j1, j2⟩ := h1 q hq
      rw [e]
      have := bel_len ha hb hc (by omega) j1 hl
      exact ⟨bel_nw ha hb hc (by omega) l, by omega⟩
    · obtain ⟨q, hq⟩ := List.exists_mem_of_ne_nil _ h2
      obtain ⟨j1, j2⟩ := h1 q hq
      obtain ⟨l, hl⟩ := end_ex ha hb hc (by omega) j1 (fun e => by rw [e] at j2; simp at j2; omega)
      have := (k3 (bel a b c q l)).2 ⟨q, hq, l, hl, rfl⟩
      rw [z] at this
      cases this
theorem last_itB {a b c : Nat} (ha : okOrd a) (hb : okOrd b) (hc : okOrd c) {w0 : W} (n0 : Nw a b c w0) (l0 : w0.length ≤ 14) : itB a b c [w0] (w0.length + 1) = [] := by
  obtain ⟨h1, h2, h3, _⟩ := lv_itB ha hb hc n0 l0 w0.length (Nat.le_refl _)
  obtain ⟨k1, k2, k3⟩ := stepB_props a b c (itB a b c [w0] w0.length) _ (Nat.le_refl _)
  rw [List.take_length] at k3
  show stepB a b c (itB a b c [w0] w0.length) = []
  refine List.eq_nil_iff_forall_not_mem.mpr fun x hx => ?_
  obtain ⟨q, hq, l, hl, e⟩ := (k3 x).1 hx
  obtain ⟨j1, j2⟩ := h1 q hq
  have := bel_len ha hb hc (by omega) j1 hl
  omega
theorem few_itB {a b c : Nat} (ha : okOrd a) (hb : okOrd b) (hc : okOrd c) {w0 : W} (n0 : Nw a b c w0) (l0 : w0.length ≤ 12) {n : Nat} (hn : n ≤ w0.length) : (itB a b c [w0] n).length ≤ 3 ^ min n (12 - n) := by
  obtain ⟨h1, h2, h3, h4⟩ := lv_itB ha hb hc n0 (by omega) n hn
  rcases Nat.le_total n (12 - n) with h | h
  · rw [Nat.min_eq_left h]
    exact h3
  · rw [Nat.min_eq_right h]
    have := cnt3 (w0.length - n) _ h4 (fun u hu => by have := (h1 u hu).2; omega)
    exact Nat.le_trans this (Nat.pow_le_pow_right (by decide) (by omega))
def sum3 : Nat → Nat
  | 0 => 0
  | n + 1 => sum3 n + 3 ^ min n (12 - n)
theorem sum3_le : ∀ n, n ≤ 13 → sum3 n ≤ 1457 := by decide
theorem few_fndB {a b c : Nat} (ha : okOrd a) (hb : okOrd b) (hc : okOrd c) {w0 : W} (n0 : Nw a b c w0) (l0 : w0.length ≤ 12) : ∀ {n : Nat}, n ≤ w0.length + 1 → (fndB a b c [w0] n).length ≤ sum3 n
  | 0, _ => by simp [fndB]
  | n + 1, h => by
    rw [fndB_succ, List.length_append]
    have h1 := few_fndB ha hb hc n0 l0 (n := n) (by omega)
    have h2 := few_itB ha hb hc n0 l0 (n := n) (by omega)
    show _ ≤ sum3 n + 3 ^ min n (12 - n)
    omega
theorem few_fnd {a b c : Nat} (ha : okOrd a) (hb : okOrd b) (hc : okOrd c) {w0 : W} (n0 : Nw a b c w0) (l0 : w0.length ≤ 12) {n : Nat} (h : n ≤ w0.length + 1) : (fndB a b c [w0] n).length ≤ 1457 := Nat.le_trans (few_fndB ha hb hc n0 l0 h) (sum3_le n (by omega))
theorem fndB_short {a b c : Nat} (ha : okOrd a) (hb : okOrd b) (hc : okOrd c) {w0 : W} (n0 : Nw a b c w0) (l0 : w0.length ≤ 14) {n : Nat} (hn : n ≤ w0.length + 1) {u : W} (hu : u ∈ fndB a b c [w0] n) : u.length ≤ 14 := by
  obtain ⟨i, hi, h⟩ := List.mem_flatMap.mp hu
  have hi := List.mem_range.mp hi
  have := ((lv_itB ha hb hc n0 l0 i (by omega)).1 u h).2
  omega
def spBtw (K : PySem.W.Frag) : Sp := fun vs H Q _ => ∃ (o : Addr) (a b c : Nat) (u v : W), vs = [.ref o, .str (wS u), .str (wS v)] ∧ Og K H o a b c ∧ u.length ≤ 60 ∧ v.length ≤ 60 ∧ (nfw a b c (u.reverse ++ v)).length ≤ 12 ∧
  ∀ (ys : List W) p H', ys.Perm ((allB a b c (nfw a b c (u.reverse ++ v))).map fun x => nfw a b c (u ++ x)) → ys.Pairwise ole → H p = none → H' p = some (.lst ((ys.map wS).map V.str)) → Same H H' → Q (.ref p) H'
theorem ok_between (T : Txt K mg cx) : FK.Has P w K mg base (L2.CX P w) 9 "between" ["orders", "one", "other"] (spBtw K) := by
  have H_check_orders := ok_check_orders (P := P) (w := w) (base := base) T
  have H_check_words := ok_check_words (P := P) (w := w) (base := base) T
  have H_Floor_init := ok_Floor_init (P := P) (w := w) (mg := mg) (base := base) T
  have H_Floor_normal := ok_Floor_normal (P := P) (w := w) (mg := mg) (base := base) T
  have H_way_between := ok_way_between (P := P) (w := w) (base := base) T
  have H_tiles_nearer := ok_tiles_nearer (P := P) (w := w) (base := base) T
  have H_in_order := ok_in_order (P := P) (w := w) (base := base) T
  refine T.d_between.okX sc_between (fun vs H Q E h => ?_) (fun f cdv A outer s H vs Q E hr h => ?_)
  · obtain ⟨o, a, b, c, u, t, rfl, _⟩ := h
    rfl
  · obtain ⟨o, a, b, c, u, t, rfl, g, hu, ht, hw0, q⟩ := h
    refine ⟨_, (pss_cons (ps_expr (FK.pe_h (E := E) H_check_orders (hr.mono (by decide)) (passes_call (takes_of rfl rfl rfl rfl) (fun _ _ _ _ h => h)) (pa_cons (pv 0) pa_nil)))
  (pss_cons (ps_expr (FK.pe_h (E := E) H_check_words (hr.mono (by decide)) (passes_call (takes_of rfl rfl rfl rfl) (fun _ _ _ _ h => h)) (pa_cons (pe_lst (pa_cons (pv 1) (pa_cons (pv 2) pa_nil))) pa_nil)))
  (pss_cons (ps_set (i := 3) sc_between.nd rfl (Or.inl rfl) (by exact (FK.pe_i (E := E0) H_Floor_init (hr.mono (by decide)) T.g_Floor pass0 (pa_cons (pv 0) pa_nil))))
  (pss_cons (ps_set (i := 4) sc_between.nd rfl (Or.inl rfl) (by exact (pe_disp (pps_cons (FK.pe_h (E := E0) H_way_between (hr.mono (by decide)) pass0 (pa_cons (pv 3) (pa_cons (pv 1) (pa_cons (pv 2) pa_nil)))) (FK.pe_m (E := E0) (pv 3) T.cl_Floor H_Floor_normal (hr.mono (by decide)) pass0 (pa_cons (pv 2) pa_nil)) pps_nil) (by rfl) (by rfl) (fun z => by cases z) (by decide))))
  (pss_cons (ps_set (i := 5) sc_between.nd rfl (Or.inl rfl) (by exact (pe_lst pa_nil)))
  (pss_cons (ps_while (passes_of rfl) (pt_cmpR (FK.op_neE hr.units0) (pv 4) pe_dnewK (nomark _)) (pss_cons (ps_expr (pe_bm PySem.F.plainAttrs_list PySem.F.slot_list_extend PySem.F.type_list_extend mt_extend (pv 5) (pa_cons (FK.pe_listVals (by rfl) (pv 4) (by rfl) T.n_list (by decide +kernel)) pa_nil)))
  (pss_cons (ps_if (pt_cmpR op_gt (pe_callB call_len_seq (by rfl) T.n_len PySem.boot_len (pa_cons (pv 5) pa_nil)) (pe_glob (v := .int 2000) rfl T.c_MOST_BETWEEN ⟨_, rfl⟩) (nomark _)) (pss_one (ps_raise rfl (takes_of rfl rfl rfl rfl) (SkE.pmk_own1 PySem.F.excBase_ValueError T.x_TooLarge.x T.x_TooLarge.g T.x_TooLarge.k (raises_own T.x_TooLarge.b T.x_TooLarge.t) rfl (pe_joined (PJ.cons pe_str (PJ.cons (pe_fmt (pe_glob (v := .int 2000) rfl T.c_MOST_BETWEEN ⟨_, rfl⟩)) (PJ.cons pe_str PJ.nil))))))) pss_nil)
  (pss_one (ps_set (i := 4) sc_between.nd rfl (Or.inl rfl) (by exact (FK.pe_h (E := E0) H_tiles_nearer (hr.mono (by decide)) pass0 (pa_cons (pv 3) (pa_cons (pv 4) pa_nil)))))))))
  (pss_one (ps_ret (FK.pe_h (E := E0) H_in_order (hr.mono (by decide)) pass0 (pa_cons (pv 5) pa_nil)))))))))), ?_⟩
    simp only [tSeq, tIfS, tOr, tAnd, tB, tTest, tCB, tCons, tVar, tC, tNil, tNot, tNotV, tRet, tRetN, tNext, tBreak, tOrV, tAndV, tOp, tUn, rEq, rNe, tChain, rI0, rI, rU, tAsg, gName, tDrop, tAug, ipI, tIf, tCall, tCallS, tLst, tTup, tBM, tBM0, rAppend, rExtend, rPop, rReverse, tyV, rIxL, rIxT, rIxS, rIsB, rNotB, L2.start, List.map_cons, List.map_nil, List.length_cons, List.length_nil, List.replicate, List.cons_append, List.nil_append, List.append_nil, List.getElem?_cons_zero, List.getElem?_cons_succ, List.set_cons_zero, List.set_cons_succ, Nat.reduceAdd, Nat.reduceSub, Option.some.injEq, exists_eq_left', exists_eq_left, V.int.injEq, V.bl.injEq, V.str.injEq, V.ref.injEq, List.cons.injEq, and_true, true_and, and_assoc, reduceCtorEq, false_and, exists_false, or_false, false_or, exists_and_left, exists_const, scal, Int.reduceLT, Int.reduceLE, Int.reduceSub, Int.reduceAdd, Int.reduceNeg, if_true, if_false, tMeth, tMake]
    have okU : okWord (wS u) 60 = true := okWord_wS (by omega)
    have okT : okWord (wS t) 60 = true := okWord_wS (by omega)
    refine ⟨o, [(a : Int), (b : Int), (c : Int)], rfl, SqT.of g.ob, (fun e => by rw [g.ok] at e; cases e), fun _ H1 s1 => ⟨by show 2 ≤ sizeLine; decide, fun p hp => ⟨p, [wS u, wS t], rfl, SqL.of upd_same, ?_, (fun e => by simp [okU, okT] at e), fun _ H2 s2 => ?_⟩⟩⟩
    · intro z hz
      rcases List.mem_cons.mp hz with rfl | hz
      · exact szw (by omega)
      · rw [List.mem_singleton.mp hz]; exact szw (by omega)
    have s03 := (s1.trans (FK.same_new hp)).trans s2
    refine fun f dx hf hdx ne => ⟨f, o, dx, rfl, upd_same, fun d H4 hd e1 e2 kp => ⟨rfl, ?_⟩⟩
    obtain ⟨F, s4, hd2⟩ := floor_new (K := K) (SqT.of (g.same s03).ob) g.ha g.hb g.hc hf hdx hd e1 e2 kp
    have Nl : ∀ (x : W), x.length ≤ 500 → (nfw a b c x).length ≤ x.length := fun x hx => by
      rw [(nfw_ok g.ha g.hb g.hc (w := x) (by omega)).2.2.1]
      exact ln_self x
    simp only [tSeq, tIfS, tOr, tAnd, tB, tTest, tCB, tCons, tVar, tC, tNil, tNot, tNotV, tRet, tRetN, tNext, tBreak, tOrV, tAndV, tOp, tUn, rEq, rNe, tChain, rI0, rI, rU, tAsg, gName, tDrop, tAug, ipI, tIf, tCall, tCallS, tLst, tTup, tBM, tBM0, rAppend, rExtend, rPop, rReverse, tyV, rIxL, rIxT, rIxS, rIsB, rNotB, L2.start, List.map_cons, List.map_nil, List.length_cons, List.length_nil, List.replicate, List.cons_append, List.nil_append, List.append_nil, List.getElem?_cons_zero, List.getElem?_cons_succ, List.set_cons_zero, List.set_cons_succ, Nat.reduceAdd, Nat.reduceSub, Option.some.injEq, exists_eq_left', exists_eq_left, V.int.injEq, V.bl.injEq, V.str.injEq, V.ref.injEq, List.cons.injEq, and_true, true_and, and_assoc, reduceCtorEq, false_and, exists_false, or_false, false_or, exists_and_left, exists_const, scal, Int.reduceLT, Int.reduceLE, Int.reduceSub, Int.reduceAdd, Int.reduceNeg, if_true, if_false, tDisp]
    refine fun p5 hp5 => ?_
    have np5 := F.ned hp5
    simp only [tSeq, tIfS, tOr, tAnd, tB, tTest, tCB, tCons, tVar, tC, tNil, tNot, tNotV, tRet, tRetN, tNext, tBreak, tOrV, tAndV, tOp, tUn, rEq, rNe, tChain, rI0, rI, rU, tAsg, gName, tDrop, tAug, ipI, tIf, tCall, tCallS, tLst, tTup, tBM, tBM0, rAppend, rExtend, rPop, rReverse, tyV, rIxL, rIxT, rIxS, rIsB, rNotB, L2.start, List.map_cons, List.map_nil, List.length_cons, List.length_nil, List.replicate, List.cons_append, List.nil_append, List.append_nil, List.getElem?_cons_zero, List.getElem?_cons_succ, List.set_cons_zero, List.set_cons_succ, Nat.reduceAdd, Nat.reduceSub, Option.some.injEq, exists_eq_left', exists_eq_left, V.int.injEq, V.bl.injEq, V.str.injEq, V.ref.injEq, List.cons.injEq, and_true, true_and, and_assoc, reduceCtorEq, false_and, exists_false, or_false, false_or, exists_and_left, exists_const, scal, Int.reduceLT, Int.reduceLE, Int.reduceSub, Int.reduceAdd, Int.reduceNeg, if_true, if_false, tPairs, tMeth]
    have F5 := F.same (FK.same_new (o := HO.dK []) hp5)
    refine ⟨f, o, d, a, b, c, u, t, rfl, F5, by omega, fun H6 F6 b6 => ?_⟩
    obtain ⟨dx6, e6⟩ := F6.ob
    refine ⟨dx6, _, e6, fldsF_no _ _ (by decide +kernel) (by decide +kernel), f, o, d, a, b, c, t, rfl, F6, by omega, fun H7 F7 b7 => ?_⟩
    have e7 : H7 p5 = some (.dK []) := b7 _ _ np5 (b6 _ _ np5 upd_same)
    have ev0 : nfw a b c t = nfw a b c (u ++ nfw a b c (u.reverse ++ t)) := by
      have h := nfw_ok g.ha g.hb g.hc (w := u.reverse ++ t) (by simp; omega)
      refine nfw_congr g.ha g.hb g.hc (by omega) (by rw [List.length_append]; omega) ?_
      have h1 := h.1.left u
      have h2 := (Eqv.inv_left (m := om a b c) u.reverse).right t
      rw [List.reverse_reverse] at h2
      rw [List.append_assoc] at h2
      exact h2.symm.trans h1
    have n0 : Nw a b c (nfw a b c (u.reverse ++ t)) := by
      have h := nfw_ok g.ha g.hb g.hc (w := u.reverse ++ t) (by simp; omega)
      exact nfw_congr g.ha g.hb g.hc (by omega) (by simp; omega) h.1.symm
    rw [ev0]
    generalize hw1 : nfw a b c (u.reverse ++ t) = w0 at *
    generalize hvf : (fun x => nfw a b c (u ++ x)) = vf at *
    have hvf' : ∀ x, nfw a b c (u ++ x) = vf x := fun x => by rw [← hvf]
    rw [hvf']
    refine ⟨e7, [(keyW w0, V.str (wS (vf w0)))], rfl, by show 1 ≤ 15; decide, Nat.zero_le _, fun L hL => ?_⟩
    have b7' : FK.But d H4 (upd H7 p5 (.dK (mergeK [] [(keyW w0, V.str (wS (vf w0)))]))) := fun x v h1 e => by
      have h3 : x ≠ p5 := fun z => by rw [z, hp5] at e; cases e
      rw [upd_ne h3]
      exact b7 _ _ h1 (b6 _ _ h1 (FK.same_new hp5 _ _ e))
    have F8 : FlAt K cx.Floor (upd H7 p5 (.dK (mergeK [] [(keyW w0, V.str (wS (vf w0)))]))) f o d a b c := F7.frX e7 np5 (fun _ h => nomatch h) (fun _ _ h => nomatch h) (fun _ _ _ h => nomatch h) (fun b' u' e' hb => by rw [upd_ne hb]; exact e')
    have hL4 : H4 L = none := by
      cases e : H4 L with
      | none => rfl
      | some v => rw [b7' L v (F8.ned hL) e] at hL; cases hL
    refine rd_while (fun m σ H' => ∃ (n : Nat) (D : Addr), σ = [some (.ref o), some (.str (wS (u))), some (.str (wS (t))), some (.ref f), some (.ref D), some (.ref L)] ∧ m + n = w0.length + 1 ∧ FlAt K cx.Floor H' f o d a b c ∧ D ≠ d ∧ H' D = some (.dK (encT vf (itB a b c [w0] n))) ∧ H' L = some (.lst ((((fndB a b c [w0] n).map vf).map wS).map V.str)) ∧ FK.But d H4 H') (w0.length + 1)
      ⟨0, p5, rfl, rfl, F8.same (FK.same_new hL), np5, FK.same_new hL _ _ upd_same, upd_same, fun x v h1 e => FK.same_new hL _ _ (b7' x v h1 e)⟩ ?_ (fun σ H Q Q' hQ h => by
        simp only [tSeq, tIfS, tOr, tAnd, tB, tTest, tCB, tCons, tVar, tC, tNil, tNot, tNotV, tRet, tRetN, tNext, tBreak, tOrV, tAndV, tOp, tUn, rEq, rNe, tChain, rI0, rI, rU, tAsg, gName, tDrop, tAug, ipI, tIf, tCall, tCallS, tLst, tTup, tBM, tBM0, rAppend, rExtend, rPop, rReverse, tyV, rIxL, rIxT, rIxS, rIsB, rNotB, L2.start, List.map_cons, List.map_nil, List.length_cons, List.length_nil, List.replicate, List.cons_append, List.nil_append, List.append_nil, List.getElem?_cons_zero, List.getElem?_cons_succ, List.set_cons_zero, List.set_cons_succ, Nat.reduceAdd, Nat.reduceSub, Option.some.injEq, exists_eq_left', exists_eq_left, V.int.injEq, V.bl.injEq, V.str.injEq, V.ref.injEq, List.cons.injEq, and_true, true_and, and_assoc, reduceCtorEq, false_and, exists_false, or_false, false_or, exists_and_left, exists_const, scal, Int.reduceLT, Int.reduceLE, Int.reduceSub, Int.reduceAdd, Int.reduceNeg, if_true, if_false, tDNewK] at h ⊢
        obtain ⟨v, a1, a2⟩ := h
        refine ⟨v, a1, fun p hp => ?_⟩
        obtain ⟨x1, x2, x3, c1, c2, c3, c4, k, c5, c6⟩ := a2 p hp
        exact ⟨x1, x2, x3, c1, c2, c3, c4, k, c5, hQ _ _ c6⟩)
    rintro m σ Ha ⟨n, D, rfl, hm, Fa, nD, eD, eL, ba⟩
    simp only [tSeq, tIfS, tOr, tAnd, tB, tTest, tCB, tCons, tVar, tC, tNil, tNot, tNotV, tRet, tRetN, tNext, tBreak, tOrV, tAndV, tOp, tUn, rEq, rNe, tChain, rI0, rI, rU, tAsg, gName, tDrop, tAug, ipI, tIf, tCall, tCallS, tLst, tTup, tBM, tBM0, rAppend, rExtend, rPop, rReverse, tyV, rIxL, rIxT, rIxS, rIsB, rNotB, L2.start, List.map_cons, List.map_nil, List.length_cons, List.length_nil, List.replicate, List.cons_append, List.nil_append, List.append_nil, List.getElem?_cons_zero, List.getElem?_cons_succ, List.set_cons_zero, List.set_cons_succ, Nat.reduceAdd, Nat.reduceSub, Option.some.injEq, exists_eq_left', exists_eq_left, V.int.injEq, V.bl.injEq, V.str.injEq, V.ref.injEq, List.cons.injEq, and_true, true_and, and_assoc, reduceCtorEq, false_and, exists_false, or_false, false_or, exists_and_left, exists_const, scal, Int.reduceLT, Int.reduceLE, Int.reduceSub, Int.reduceAdd, Int.reduceNeg, if_true, if_false, tDNewK]
    refine fun p9 hp9 => ⟨D, p9, _, rfl, rfl, FK.same_new hp9 _ _ eD, upd_same, _, rfl, ?_⟩
    have Fb := Fa.same (FK.same_new (o := HO.dK []) hp9)
    have bb : FK.But d H4 (upd Ha p9 (.dK [])) := fun x v h1 e => FK.same_new hp9 _ _ (ba x v h1 e)
    have eDb : upd Ha p9 (.dK []) D = _ := FK.same_new hp9 _ _ eD
    have eLb : upd Ha p9 (.dK []) L = _ := FK.same_new hp9 _ _ eL
    have lE : ∀ ks : List W, (encT vf ks).isEmpty = ks.isEmpty := fun ks => by cases ks <;> rfl
    rw [lE]
    have nLd : L ≠ d := F8.ned hL
    have nDL : D ≠ L := fun z => by rw [z, eL] at eD; cases eD
    by_cases hm0 : m = 0
    · have en : n = w0.length + 1 := by omega
      subst en
      rw [last_itB g.ha g.hb g.hc n0 (by omega), if_neg (by simp)]
      refine ⟨L, (fndB a b c [w0] (w0.length + 1)).map vf, rfl, SqL.of eLb, fun x hx => ?_, fun ys pp H9 pm pw hpp e9 s9 => q ys pp H9 pm pw ?_ e9 ((s03.trans (but_same s4 hd2 bb)).trans s9)⟩
      · obtain ⟨y, hy, rfl⟩ := List.mem_map.mp hx
        have h1 := fndB_short g.ha g.hb g.hc n0 (by omega) (Nat.le_refl _) hy
        have h2 := Nl (u ++ y) (by rw [List.length_append]; omega)
        rw [List.length_append, hvf'] at h2
        omega
      · exact back (s03.trans (but_same s4 hd2 bb)) hpp
    · have hn : n ≤ w0.length := by omega
      obtain ⟨k1, k2, k3, k4⟩ := lv_itB g.ha g.hb g.hc n0 (by omega) n hn
      have ne9 : (itB a b c [w0] n).isEmpty = false := by
        cases e : itB a b c [w0] n with
        | nil => exact absurd e k2
        | cons _ _ => rfl
      rw [ne9, if_pos (show (!false) = true from rfl)]
      refine ⟨.inl ⟨_, SqL.of eLb⟩, ?_⟩
      simp only [tSeq, tIfS, tOr, tAnd, tB, tTest, tCB, tCons, tVar, tC, tNil, tNot, tNotV, tRet, tRetN, tNext, tBreak, tOrV, tAndV, tOp, tUn, rEq, rNe, tChain, rI0, rI, rU, tAsg, gName, tDrop, tAug, ipI, tIf, tCall, tCallS, tLst, tTup, tBM, tBM0, rAppend, rExtend, rPop, rReverse, tyV, rIxL, rIxT, rIxS, rIsB, rNotB, L2.start, List.map_cons, List.map_nil, List.length_cons, List.length_nil, List.replicate, List.cons_append, List.nil_append, List.append_nil, List.getElem?_cons_zero, List.getElem?_cons_succ, List.set_cons_zero, List.set_cons_succ, Nat.reduceAdd, Nat.reduceSub, Option.some.injEq, exists_eq_left', exists_eq_left, V.int.injEq, V.bl.injEq, V.str.injEq, V.ref.injEq, List.cons.injEq, and_true, true_and, and_assoc, reduceCtorEq, false_and, exists_false, or_false, false_or, exists_and_left, exists_const, scal, Int.reduceLT, Int.reduceLE, Int.reduceSub, Int.reduceAdd, Int.reduceNeg, if_true, if_false, FK.tListVals]
      refine ⟨_, eDb, fun q9 hq9 => ?_⟩
      have f1 := Nat.le_trans (few_itB g.ha g.hb g.hc n0 hw0 hn) (Nat.pow_le_pow_right (by decide) (show min n (12 - n) ≤ 6 by omega))
      have f2 := few_fnd g.ha g.hb g.hc n0 hw0 (n := n) (by omega)
      have eLq := FK.same_new (o := HO.lst ((encT vf (itB a b c [w0] n)).map fun kv => kv.2)) hq9 _ _ eLb
      have eval : ((encT vf (itB a b c [w0] n)).map fun kv => kv.2) = (((itB a b c [w0] n).map vf).map wS).map V.str := by
        unfold encT
        rw [List.map_map, List.map_map, List.map_map]
        rfl
      have efull : (((fndB a b c [w0] n).map vf).map wS).map V.str ++ ((encT vf (itB a b c [w0] n)).map fun kv => kv.2) = (((fndB a b c [w0] (n + 1)).map vf).map wS).map V.str := by
        rw [eval, fndB_succ, List.map_append, List.map_append, List.map_append]
      have nqL : q9 ≠ L := fun z => by rw [z, eLb] at hq9; cases hq9
      refine ⟨_, eLq, _, upd_same, ?_, _, .inl (SqL.of upd_same), ?_⟩
      · rw [eval]
        simp only [List.length_map]
        have f3 := few_fnd g.ha g.hb g.hc n0 hw0 (n := n + 1) (by omega)
        rw [fndB_succ, List.length_append] at f3
        exact zl _ (by omega)
      · rw [if_neg (by
          rw [decide_eq_true_iff, efull]
          simp only [List.length_map]
          have := few_fnd g.ha g.hb g.hc n0 hw0 (n := n + 1) (by omega)
          omega)]
        rw [efull]
        have Fq := (Fb.same (FK.same_new (o := HO.lst ((encT vf (itB a b c [w0] n)).map fun kv => kv.2)) hq9)).frX (H' := upd (upd (upd Ha p9 (.dK [])) q9 (.lst ((encT vf (itB a b c [w0] n)).map fun kv => kv.2))) L (.lst ((((fndB a b c [w0] (n + 1)).map vf).map wS).map V.str))) eLq nLd (fun _ h => nomatch h) (fun _ _ h => nomatch h) (fun _ _ _ h => nomatch h) (fun b' u' e' hb => by rw [upd_ne hb]; exact e')
        refine ⟨f, o, d, D, a, b, c, u, itB a b c [w0] n, rfl, Fq, nD, ?_, hu, fun x hx => ⟨(k1 x hx).1, by have := (k1 x hx).2; omega⟩, by omega, fun D' H' hD' eD' F' b' => ⟨m - 1, by omega, n + 1, D', rfl, by omega, F', Fq.ned hD', ?_, ?_, fun x v h1 e => ?_⟩⟩
        · rw [upd_ne nDL, hvf]
          exact FK.same_new hq9 _ _ eDb
        · rw [hvf] at eD'
          exact eD'
        · exact b' _ _ nLd upd_same
        · refine b' _ _ h1 ?_
          rw [upd_ne (fun z => by rw [z, hL4] at e; cases e)]
          exact FK.same_new hq9 _ _ (bb x v h1 e)

end
end K19

namespace K19
open PySem PySem.Spec PyProof.Rows L2 Cox
section
variable {P : Program} {w : World} {K : PySem.W.Frag} {mg : Str → Option Value} {base : Heap} {cx : Xs}
theorem nfm {x y z : Nat} (hx : okOrd x) (hy : okOrd y) (hz : okOrd z) : NF (om x y z) (nfw x y z) ∧ ∀ u : W, u.length ≤ 500 → (nfw x y z u).length = ln (om x y z) u :=
  ⟨⟨fun u h => (nfw_ok hx hy hz (w := u) (by omega)).1, fun u h => by rw [(nfw_ok hx hy hz (w := u) (by omega)).2.2.1]; exact ln_self u, fun u v h1 h2 e => nfw_congr hx hy hz (by omega) (by omega) e⟩, fun u h => (nfw_ok hx hy hz (w := u) (by omega)).2.2.1⟩
theorem e_in {m : Fin 3 → Fin 3 → Nat} (p w0 : W) : Eqv m (p ++ (p.reverse ++ w0)) w0 := by
  have h := (Eqv.inv_right (m := m) p).right w0
  rw [List.append_assoc] at h
  exact h
theorem e_two {m : Fin 3 → Fin 3 → Nat} (u : W) (l : Fin 3) : Eqv m (u ++ [l] ++ [l]) u := by
  have h := (Eqv.cancel (m := m) l).left u
  rw [List.append_nil] at h
  rw [List.append_assoc]
  exact h
theorem e_pre {m : Fin 3 → Fin 3 → Nat} {q p w0 : W} {l : Fin 3} (h : Eqv m (p ++ [l]) q) : Eqv m (q.reverse ++ w0) ([l] ++ (p.reverse ++ w0)) := by
  have h := h.symm.rev.right w0
  rw [List.reverse_append, List.append_assoc] at h
  exact h
section
variable {x y z : Nat} (hx : okOrd x) (hy : okOrd y) (hz : okOrd z)
include hx hy hz
theorem ln_tri (p w0 : W) : ln (om x y z) w0 ≤ ln (om x y z) p + ln (om x y z) (p.reverse ++ w0) := by
  have h := ln_append (m := om x y z) p (p.reverse ++ w0)
  rw [ln_eqv (e_in p w0)] at h
  exact h
theorem ln_nw {p : W} (h : Nw x y z p) (hp : p.length ≤ 60) : ln (om x y z) p = p.length := h.red hx hy hz hp
theorem ln_bel {p : W} (hp : p.length ≤ 60) (l : Fin 3) : (bel x y z p l).length = ln (om x y z) (p ++ [l]) := (nfw_ok hx hy hz (w := p ++ [l]) (by rw [List.length_append, List.length_singleton]; omega)).2.2.1
/-- the ways to a level, told by lengths -/
theorem mem_itB {w0 : W} (n0 : Nw x y z w0) (l0 : w0.length ≤ 14) : ∀ n, n ≤ w0.length → ∀ p, p ∈ itB x y z [w0] n ↔ Nw x y z p ∧ p.length + n = w0.length ∧ ln (om x y z) (p.reverse ++ w0) = n
  | 0, _, p => by
    constructor
    · intro h
      rw [List.mem_singleton.mp h]
      refine ⟨n0, rfl, ?_⟩
      have h1 := ln_eqv (Eqv.inv_left (m := om x y z) w0)
      have h2 := ln_self (m := om x y z) []
      rw [h1]
      simpa using h2
    · rintro ⟨h1, h2, h3⟩
      obtain ⟨q, e1, e2⟩ := ln_ex (m := om x y z) (p.reverse ++ w0)
      rw [h3] at e2
      rw [List.eq_nil_of_length_eq_zero e2] at e1
      have e3 : Eqv (om x y z) w0 p := by
        have h := e1.left p
        rw [List.append_nil] at h
        exact (e_in p w0).symm.trans h
      have h4 := nfw_congr hx hy hz (by omega) (by omega) e3
      rw [n0, h1] at h4
      rw [h4]
      exact List.mem_singleton.mpr rfl
  | n + 1, hn, p => by
    have ih := mem_itB n0 l0 n (by omega)
    obtain ⟨k1, k2, k3⟩ := stepB_props x y z (itB x y z [w0] n) _ (Nat.le_refl _)
    rw [List.take_length] at k3
    have rw0 := ln_nw hx hy hz n0 (by omega)
    show p ∈ stepB x y z (itB x y z [w0] n) ↔ _
    rw [k3 p]
    constructor
    · rintro ⟨q, hq, l, hl, rfl⟩
      obtain ⟨j1, j2, j3⟩ := (ih q).1 hq
      have b1 := bel_len hx hy hz (by omega) j1 hl
      have b2 := bel_nw hx hy hz (u := q) (by omega) l
      have b3 := bel_eqv hx hy hz (u := q) (by omega) l
      have e := ln_eqv (e_pre (w0 := w0) b3)
      have h1 := ln_append (m := om x y z) [l] (q.reverse ++ w0)
      have h2 := ln_self (m := om x y z) [l]
      have h3 := ln_tri hx hy hz (bel x y z q l) w0
      have h4 := ln_self (m := om x y z) (bel x y z q l)
      rw [List.length_singleton] at h2
      exact ⟨b2, by omega, by omega⟩
    · rintro ⟨h1, h2, h3⟩
      obtain ⟨yy, e1, e2⟩ := ln_ex (m := om x y z) (p.reverse ++ w0)
      rw [h3] at e2
      match yy, e1, e2 with
      | l :: y', e1, e2 =>
        have e2 : y'.length = n := by simpa using e2
        have b3 := bel_eqv hx hy hz (u := p) (by omega) l
        have b2 := bel_nw hx hy hz (u := p) (by omega) l
        have rp := ln_nw hx hy hz h1 (by omega)
        have lq := ln_bel hx hy hz (p := p) (by omega) l
        have e : Eqv (om x y z) ((bel x y z p l).reverse ++ w0) y' := (e_pre (w0 := w0) b3).trans ((e1.left [l]).trans ((Eqv.cancel (m := om x y z) l).right y'))
        have c1 := ln_le e
        have c2 := ln_self (m := om x y z) (p ++ [l])
        rw [List.length_append, List.length_singleton] at c2
        have c3 := ln_tri hx hy hz (bel x y z p l) w0
        have c5 := ln_nw hx hy hz b2 (by omega)
        have e5 : Eqv (om x y z) (bel x y z p l ++ [l]) p := (b3.symm.right [l]).trans (e_two p l)
        refine ⟨bel x y z p l, (ih _).2 ⟨b2, by omega, by omega⟩, l, ?_, ?_⟩
        · refine (endw_ok hx hy hz (by omega) l).2 ?_
          rw [ln_eqv e5]
          omega
        · have h9 := nfw_congr hx hy hz (by rw [List.length_append, List.length_singleton]; omega) (by omega) e5
          rw [h1] at h9
          exact h9.symm
end

end
end K19

namespace K19
open PySem PySem.Spec PyProof.Rows L2 Cox
section
variable {P : Program} {w : World} {K : PySem.W.Frag} {mg : Str → Option Value} {base : Heap} {cx : Xs}
theorem endw_nd (a b c : Nat) (u : W) : (endw a b c u).Nodup := List.Pairwise.filter _ (by decide)
/-- the number of shortest ways down to the first tile, for words of n letters -/
def Rn (a b c : Nat) : Nat → W → Nat
  | 0, _ => 1
  | n + 1, u => ((endw a b c u).map fun l => Rn a b c n (bel a b c u l)).sum
def RR (a b c : Nat) (u : W) : Nat := Rn a b c u.length u
def sumR (a b c : Nat) (d : List (W × Nat)) : Nat := (d.map fun p => p.2 * RR a b c p.1).sum
theorem getN_none {d : List (W × Nat)} {k : W} (h : k ∉ d.map Prod.fst) : getN d k = 0 := by
  unfold getN
  cases f : d.find? fun p => decide (p.1 = k) with
  | none => rfl
  | some q =>
    have h1 := List.find?_some f
    have h2 := List.mem_of_find?_eq_some f
    exact absurd (List.mem_map.mpr ⟨q, h2, of_decide_eq_true h1⟩) h
theorem sum_put {g : W → Nat} {k : W} {n : Nat} : ∀ {d : List (W × Nat)}, (d.map Prod.fst).Nodup → k ∈ d.map Prod.fst → ((d.map fun p => if p.1 = k then (k, getN d k + n) else p).map fun p => p.2 * g p.1).sum = (d.map fun p => p.2 * g p.1).sum + n * g k
  | [], _, h => by cases h
  | p :: d, nd, h => by
    have nd' := List.pairwise_cons.mp (by rwa [List.map_cons] at nd)
    by_cases e : p.1 = k
    · have hg : getN (p :: d) k = p.2 := by
        unfold getN
        rw [List.find?_cons_of_pos (by simpa using e)]
        rfl
      have hd : (d.map fun q => if q.1 = k then (k, getN (p :: d) k + n) else q) = d := by
        refine (List.map_congr_left fun q hq => ?_).trans (List.map_id _)
        have : q.1 ≠ k := fun z => nd'.1 q.1 (List.mem_map.mpr ⟨q, hq, rfl⟩) (by rw [e, z])
        rw [if_neg this]
        rfl
      rw [List.map_cons, if_pos e, hd, hg]
      simp only [List.map_cons, List.sum_cons, e, Nat.add_mul]
      omega
    · have hk : k ∈ d.map Prod.fst := by
        rcases List.mem_cons.mp (by rwa [List.map_cons] at h) with h | h
        · exact absurd h.symm e
        · exact h
      have hg : getN (p :: d) k = getN d k := by
        unfold getN
        rw [List.find?_cons_of_neg (by simpa using e)]
      have ih := sum_put (g := g) (n := n) nd'.2 hk
      rw [List.map_cons, if_neg e, hg]
      simp only [List.map_cons, List.sum_cons]
      rw [ih]
      omega
theorem nd_putN {d : List (W × Nat)} {k : W} {n : Nat} (nd : (d.map Prod.fst).Nodup) : ((putN d k n).map Prod.fst).Nodup := by
  unfold putN
  split
  · rename_i h
    have e : ((d.map fun p => if p.1 = k then (k, n) else p).map Prod.fst) = d.map Prod.fst := by
      rw [List.map_map]
      refine List.map_congr_left fun p _ => ?_
      show (if p.1 = k then (k, n) else p).1 = p.1
      split
      · rename_i e; exact e.symm
      · rfl
    rw [e]
    exact nd
  · rename_i h
    rw [List.map_append]
    refine List.nodup_append.mpr ⟨nd, List.pairwise_singleton _ _, fun p hp q hq => ?_⟩
    rw [List.mem_singleton.mp hq]
    intro e
    rw [e] at hp
    exact h hp
theorem sumR_put {a b c : Nat} {d : List (W × Nat)} (nd : (d.map Prod.fst).Nodup) (k : W) (n : Nat) : sumR a b c (putN d k (getN d k + n)) = sumR a b c d + n * RR a b c k := by
  unfold putN sumR
  split
  · rename_i h
    exact sum_put nd h
  · rename_i h
    rw [getN_none h, List.map_append, List.sum_append]
    simp
theorem sumR_one {a b c : Nat} {u : W} {n : Nat} : ∀ {ls : W} {acc : List (W × Nat)}, (acc.map Prod.fst).Nodup → ((one3 a b c u n acc ls).map Prod.fst).Nodup ∧ sumR a b c (one3 a b c u n acc ls) = sumR a b c acc + n * (ls.map fun l => RR a b c (bel a b c u l)).sum
  | [], acc, nd => ⟨nd, by simp [one3]⟩
  | l :: ls, acc, nd => by
    obtain ⟨h1, h2⟩ := sumR_one (ls := ls) (nd_putN (k := bel a b c u l) (n := getN acc (bel a b c u l) + n) nd)
    refine ⟨h1, ?_⟩
    show sumR a b c (one3 a b c u n (putN acc (bel a b c u l) (getN acc (bel a b c u l) + n)) ls) = _
    rw [h2, sumR_put nd, List.map_cons, List.sum_cons, Nat.mul_add]
    omega
theorem sumR_step {a b c : Nat} {d : List (W × Nat)} : ∀ j, j ≤ d.length → ((stepN a b c (d.take j)).map Prod.fst).Nodup ∧ sumR a b c (stepN a b c (d.take j)) = ((d.take j).map fun p => p.2 * ((endw a b c p.1).map fun l => RR a b c (bel a b c p.1 l)).sum).sum
  | 0, _ => ⟨by simp [stepN], by simp [stepN, sumR]⟩
  | j + 1, h => by
    have hj := List.getElem?_eq_getElem (by omega : j < d.length)
    obtain ⟨h1, h2⟩ := sumR_step (a := a) (b := b) (c := c) (d := d) j (by omega)
    rw [stepN_take a b c d hj]
    obtain ⟨k1, k2⟩ := sumR_one (a := a) (b := b) (c := c) (u := d[j].1) (n := d[j].2) (ls := endw a b c d[j].1) h1
    refine ⟨k1, ?_⟩
    rw [k2, h2, List.take_add_one, hj, List.map_append, List.sum_append]
    simp
section
variable {x y z : Nat} (hx : okOrd x) (hy : okOrd y) (hz : okOrd z)
include hx hy hz
theorem RR_step {p : W} (np : Nw x y z p) (lp : p.length ≤ 60) (ne : p ≠ []) : ((endw x y z p).map fun l => RR x y z (bel x y z p l)).sum = RR x y z p := by
  obtain ⟨k, hk⟩ : ∃ k, p.length = k + 1 := ⟨p.length - 1, by have := List.length_pos_iff.mpr ne; omega⟩
  show _ = Rn x y z p.length p
  rw [hk]
  show _ = ((endw x y z p).map fun l => Rn x y z k (bel x y z p l)).sum
  congr 1
  refine List.map_congr_left fun l hl => ?_
  have := bel_len hx hy hz lp np hl
  show Rn x y z (bel x y z p l).length (bel x y z p l) = _
  rw [show (bel x y z p l).length = k by omega]
theorem sumR_itN {w0 : W} (n0 : Nw x y z w0) (l0 : w0.length ≤ 14) : ∀ n, n ≤ w0.length → ((itN x y z [(w0, 1)] n).map Prod.fst).Nodup ∧ sumR x y z (itN x y z [(w0, 1)] n) = RR x y z w0
  | 0, _ => ⟨by simp [itN], by simp [itN, sumR]⟩
  | n + 1, h => by
    obtain ⟨h1, h2⟩ := sumR_itN n0 l0 n (by omega)
    obtain ⟨k1, k2, k3⟩ := lv_itN hx hy hz n0 l0 n (by omega)
    obtain ⟨j1, j2⟩ := sumR_step (a := x) (b := y) (c := z) (d := itN x y z [(w0, 1)] n) _ (Nat.le_refl _)
    rw [List.take_length] at j1 j2
    refine ⟨j1, ?_⟩
    show sumR x y z (stepN x y z (itN x y z [(w0, 1)] n)) = _
    rw [j2, ← h2]
    unfold sumR
    congr 1
    refine List.map_congr_left fun p hp => ?_
    obtain ⟨i1, i2⟩ := k1 p hp
    rw [RR_step hx hy hz i1 (by omega) (fun e => by rw [e] at i2; simp at i2; omega)]
theorem cw_RR {w0 : W} (n0 : Nw x y z w0) (l0 : w0.length ≤ 14) : cw x y z w0 = RR x y z w0 := by
  obtain ⟨h1, h2⟩ := sumR_itN hx hy hz n0 l0 w0.length (Nat.le_refl _)
  obtain ⟨k1, k2, k3⟩ := lv_itN hx hy hz n0 l0 w0.length (Nat.le_refl _)
  unfold cw
  rw [← h2]
  match itN x y z [(w0, 1)] w0.length, h1, k1, k2 with
  | [], _, _, k2 => exact absurd rfl k2
  | [p], _, k1, _ =>
    have e : p.1 = [] := List.eq_nil_of_length_eq_zero (by have := (k1 p List.mem_cons_self).2; omega)
    unfold getN sumR
    rw [List.find?_cons_of_pos (by simpa using e), List.map_cons, List.map_nil, List.sum_cons, List.sum_nil, e]
    show p.2 = p.2 * 1 + 0
    omega
  | p :: q :: r, h1, k1, _ =>
    have e : p.1 = [] := List.eq_nil_of_length_eq_zero (by have := (k1 p List.mem_cons_self).2; omega)
    have e2 : q.1 = [] := List.eq_nil_of_length_eq_zero (by have := (k1 q (List.mem_cons_of_mem _ List.mem_cons_self)).2; omega)
    rw [List.map_cons, List.map_cons] at h1
    exact absurd (e.trans e2.symm) ((List.pairwise_cons.mp h1).1 q.1 List.mem_cons_self)
end

end
end K19

namespace K19
open PySem PySem.Spec PyProof.Rows L2 Cox
section
variable {P : Program} {w : World} {K : PySem.W.Frag} {mg : Str → Option Value} {base : Heap} {cx : Xs}
/-- a row of tiles: those behind the ways of a level -/
def Row (x y z : Nat) (u w0 : W) (n : Nat) (r : List W) : Prop := r.Nodup ∧ ∀ t, t ∈ r ↔ ∃ p ∈ itB x y z [w0] n, t = nfw x y z (u ++ p)
theorem endw_filter {a b c : Nat} {w : W} : ([0, 1, 2] : List (Fin 3)).filter (fun s => decide (s ∈ endw a b c w)) = endw a b c w := by
  unfold endw negs
  generalize Cox.depI (bendT a b c (bitsOf (w.length / 128))) (TT (w.length / 128)) w.reverse = D
  refine List.filter_congr fun x hx => ?_
  refine decide_eq_decide.mpr ?_
  rw [List.mem_filter]
  simp [hx]

theorem sum_if {α : Type} (P : α → Bool) (f : α → Nat) : ∀ ls : List α, (ls.map fun l => if P l = true then f l else 0).sum = ((ls.filter P).map f).sum
  | [] => rfl
  | l :: ls => by
    rw [List.map_cons, List.sum_cons, sum_if P f ls, List.filter_cons]
    by_cases h : P l = true
    · rw [if_pos h, if_pos h, List.map_cons, List.sum_cons]
    · rw [if_neg h, if_neg h, Nat.zero_add]
theorem getN_row {r : List W} {M : W → Nat} (k : W) : getN (r.map fun t => (t, M t)) k = if k ∈ r then M k else 0 := by
  induction r with
  | nil => rfl
  | cons t r ih =>
    by_cases e : t = k
    · unfold getN
      rw [List.map_cons, List.find?_cons_of_pos (by simpa using e), if_pos (by rw [e]; exact List.mem_cons_self), e]
      rfl
    · have h : getN ((t :: r).map fun t => (t, M t)) k = getN (r.map fun t => (t, M t)) k := by
        unfold getN
        rw [List.map_cons, List.find?_cons_of_neg (by simpa using e)]
      rw [h, ih]
      by_cases c : k ∈ r
      · rw [if_pos c, if_pos (List.mem_cons_of_mem _ c)]
      · rw [if_neg c, if_neg (fun z => by
          rcases List.mem_cons.mp z with q | q
          · exact e q.symm
          · exact c q)]
theorem rev_levels {α : Type} (G : Nat → List α) (L : Nat) : ((List.range (L + 1)).flatMap fun k => G (L - k)).Perm ((List.range (L + 1)).flatMap G) := by
  have h : ((List.range (L + 1)).map fun k => L - k).Perm (List.range (L + 1)) := by
    refine perm_ext' (List.pairwise_map.mpr (List.nodup_range.imp_of_mem fun {a b} ha hb hne e => hne (by
      have := List.mem_range.mp ha
      have := List.mem_range.mp hb
      omega))) List.nodup_range fun k => ?_
    rw [List.mem_map, List.mem_range]
    constructor
    · rintro ⟨j, h1, rfl⟩
      have := List.mem_range.mp h1
      omega
    · intro h
      exact ⟨L - k, List.mem_range.mpr (by omega), by omega⟩
  have h2 := h.flatMap_right G
  rw [List.flatMap_map] at h2
  exact h2
section
variable {x y z : Nat} (hx : okOrd x) (hy : okOrd y) (hz : okOrd z)
include hx hy hz
theorem row_inj {u p q : W} (hu : u.length ≤ 60) (hp : p.length ≤ 60) (hq : q.length ≤ 60) (np : Nw x y z p) (nq : Nw x y z q) (e : nfw x y z (u ++ p) = nfw x y z (u ++ q)) : p = q := by
  have h1 := (nfw_ok hx hy hz (w := u ++ p) (by rw [List.length_append]; omega)).1
  have h2 := (nfw_ok hx hy hz (w := u ++ q) (by rw [List.length_append]; omega)).1
  rw [e] at h1
  have h3 := Eqv.cancel_left (h1.trans h2.symm)
  have h4 := nfw_congr hx hy hz (by omega) (by omega) h3
  rw [np, nq] at h4
  exact h4
theorem way_len {u v p t : W} (hu : u.length ≤ 60) (hv : v.length ≤ 60) (hp : p.length ≤ 60) (ht : t.length ≤ 200) (e : Eqv (om x y z) t (u ++ p)) : (nfw x y z (t.reverse ++ v)).length = ln (om x y z) (p.reverse ++ nfw x y z (u.reverse ++ v)) := by
  obtain ⟨N, R⟩ := nfm hx hy hz
  rw [R _ (by rw [List.length_append, List.length_reverse]; omega)]
  refine ln_eqv ?_
  have h1 := e.rev.right v
  rw [List.reverse_append, List.append_assoc] at h1
  exact h1.trans ((N.e (u.reverse ++ v) (by rw [List.length_append, List.length_reverse]; omega)).left p.reverse)
theorem row_perm {u w0 : W} {n : Nat} {r : List W} (h : Row x y z u w0 n r) (n0 : Nw x y z w0) (l0 : w0.length ≤ 14) (hu : u.length ≤ 60) (hn : n ≤ w0.length) : r.Perm ((itB x y z [w0] n).map fun p => nfw x y z (u ++ p)) := by
  obtain ⟨k1, _, _, k4⟩ := lv_itB hx hy hz n0 l0 n hn
  refine perm_ext' h.1 (List.pairwise_map.mpr (k4.imp_of_mem fun {p q} hp hq hne e => hne (by
    have := (k1 p hp).2
    have := (k1 q hq).2
    exact row_inj hx hy hz hu (by omega) (by omega) (k1 p hp).1 (k1 q hq).1 e))) fun t => ?_
  · rw [h.2 t, List.mem_map]
    exact ⟨fun ⟨p, h1, h2⟩ => ⟨p, h1, h2.symm⟩, fun ⟨p, h1, h2⟩ => ⟨p, h1, h2.symm⟩⟩
theorem row_start {u w0 : W} (n0 : Nw x y z w0) (l0 : w0.length ≤ 14) : Row x y z u w0 w0.length [nfw x y z u] := by
  refine ⟨List.pairwise_singleton _ _, fun t => ?_⟩
  have hnil : ([] : W) ∈ itB x y z [w0] w0.length := by
    refine (mem_itB hx hy hz n0 l0 _ (Nat.le_refl _) []).2 ⟨?_, by simp, ?_⟩
    · have h := (nfw_ok hx hy hz (w := []) (by simp)).2.2.1
      have h2 := ln_self (m := om x y z) []
      rw [List.length_nil] at h2
      exact List.eq_nil_of_length_eq_zero (by omega)
    · show ln (om x y z) w0 = w0.length
      exact ln_nw hx hy hz n0 (by omega)
  rw [List.mem_singleton]
  constructor
  · rintro rfl
    exact ⟨[], hnil, by rw [List.append_nil]⟩
  · rintro ⟨p, hp, rfl⟩
    have := ((mem_itB hx hy hz n0 l0 _ (Nat.le_refl _) p).1 hp).2.1
    rw [List.eq_nil_of_length_eq_zero (by omega : p.length = 0), List.append_nil]
theorem row_step {u v : W} {n : Nat} {r ys : List W} (hu : u.length ≤ 6) (hv : v.length ≤ 6) (h : Row x y z u (nfw x y z (u.reverse ++ v)) (n + 1) r) (hn : n + 1 ≤ (nfw x y z (u.reverse ++ v)).length) (nd : ys.Nodup)
    (hm : ∀ t, t ∈ ys ↔ ∃ s ∈ r, ∃ l : Fin 3, t = nfw x y z (s ++ [l]) ∧ (nfw x y z (t.reverse ++ v)).length = n) : Row x y z u (nfw x y z (u.reverse ++ v)) n ys := by
  obtain ⟨N, R⟩ := nfm hx hy hz
  have l0 : (nfw x y z (u.reverse ++ v)).length ≤ 12 := by
    have := N.l (u.reverse ++ v) (by rw [List.length_append, List.length_reverse]; omega)
    rw [List.length_append, List.length_reverse] at this
    omega
  have n0 : Nw x y z (nfw x y z (u.reverse ++ v)) := N.c _ _ (by omega) (by rw [List.length_append, List.length_reverse]; omega) (N.e _ (by rw [List.length_append, List.length_reverse]; omega)).symm
  have wl : ∀ {p t : W}, p.length ≤ 60 → t.length ≤ 200 → Eqv (om x y z) t (u ++ p) → (nfw x y z (t.reverse ++ v)).length = ln (om x y z) (p.reverse ++ nfw x y z (u.reverse ++ v)) := fun hp ht e => way_len hx hy hz (by omega) (by omega) hp ht e
  generalize nfw x y z (u.reverse ++ v) = w0 at *
  have mi := mem_itB hx hy hz n0 (by omega)
  have rw0 := ln_nw hx hy hz n0 (by omega)
  refine ⟨nd, fun t => ?_⟩
  rw [hm t]
  have sl : ∀ p : W, p.length ≤ 13 → (nfw x y z (u ++ p)).length ≤ 19 := fun p hp => by
    have := N.l (u ++ p) (by rw [List.length_append]; omega)
    rw [List.length_append] at this
    omega
  constructor
  · rintro ⟨s, hs, l, rfl, hl⟩
    obtain ⟨p, hp, rfl⟩ := (h.2 s).1 hs
    obtain ⟨k1, k2, k3⟩ := (mi (n + 1) (by omega) p).1 hp
    have b3 := bel_eqv hx hy hz (u := p) (by omega) l
    have b2 := bel_nw hx hy hz (u := p) (by omega) l
    have b4 := ln_bel hx hy hz (p := p) (by omega) l
    have b5 := ln_self (m := om x y z) (p ++ [l])
    rw [List.length_append, List.length_singleton] at b5
    have sp := sl p (by omega)
    have e1 : Eqv (om x y z) (nfw x y z (u ++ p) ++ [l]) (u ++ bel x y z p l) := by
      have a1 := (N.e (u ++ p) (by rw [List.length_append]; omega)).symm.right [l]
      have a2 := b3.left u
      rw [← List.append_assoc] at a2
      exact a1.trans a2
    have e2 := (N.e (nfw x y z (u ++ p) ++ [l]) (by rw [List.length_append, List.length_singleton]; omega)).symm.trans e1
    have l3 := N.l (nfw x y z (u ++ p) ++ [l]) (by rw [List.length_append, List.length_singleton]; omega)
    rw [List.length_append, List.length_singleton] at l3
    rw [wl (by omega) (by omega) e2] at hl
    have tri := ln_tri hx hy hz (bel x y z p l) w0
    have b6 := ln_nw hx hy hz b2 (by omega)
    exact ⟨bel x y z p l, (mi n (by omega) _).2 ⟨b2, by omega, hl⟩, N.c _ _ (by rw [List.length_append, List.length_singleton]; omega) (by rw [List.length_append]; omega) e1⟩
  · rintro ⟨p, hp, rfl⟩
    obtain ⟨k1, k2, k3⟩ := (mi n (by omega) p).1 hp
    obtain ⟨q, l, rfl⟩ : ∃ q l, p = q ++ [l] := by
      have ne : p ≠ [] := fun e => by rw [e] at k2; simp at k2; omega
      exact ⟨p.dropLast, p.getLast ne, (List.dropLast_concat_getLast ne).symm⟩
    rw [List.length_append, List.length_singleton] at k2
    have rp := ln_nw hx hy hz k1 (by rw [List.length_append, List.length_singleton]; omega)
    rw [List.length_append, List.length_singleton] at rp
    have a0 := ln_append (m := om x y z) q [l]
    have a00 := ln_self (m := om x y z) [l]
    rw [List.length_singleton] at a00
    have a1 := ln_self (m := om x y z) q
    have eq0 := N.e q (by omega)
    have lq := R q (by omega)
    have nq : Nw x y z (nfw x y z q) := N.c _ _ (by omega) (by omega) eq0.symm
    have e3 : Eqv (om x y z) ((nfw x y z q).reverse ++ w0) ([l] ++ ((q ++ [l]).reverse ++ w0)) := by
      have h1 := eq0.symm.rev.right w0
      have h2 := (Eqv.cancel (m := om x y z) l).symm.right (q.reverse ++ w0)
      rw [List.reverse_append]
      exact h1.trans h2
    have c1 := ln_append (m := om x y z) [l] ((q ++ [l]).reverse ++ w0)
    have c2 := ln_tri hx hy hz (nfw x y z q) w0
    have c3 := ln_nw hx hy hz nq (by omega)
    rw [ln_eqv e3] at c2
    have ql : (nfw x y z (u ++ nfw x y z q)).length ≤ 19 := sl _ (by omega)
    have e4 : Eqv (om x y z) (nfw x y z (u ++ nfw x y z q) ++ [l]) (u ++ (q ++ [l])) := by
      have h1 := (N.e (u ++ nfw x y z q) (by rw [List.length_append]; omega)).symm.right [l]
      have h2 := (eq0.symm.left u).right [l]
      rw [List.append_assoc u q] at h2
      exact h1.trans h2
    refine ⟨nfw x y z (u ++ nfw x y z q), (h.2 _).2 ⟨nfw x y z q, (mi (n + 1) (by omega) _).2 ⟨nq, by omega, by rw [ln_eqv e3]; omega⟩, rfl⟩, l, ?_, ?_⟩
    · exact (N.c _ _ (by rw [List.length_append, List.length_singleton]; omega) (by simp only [List.length_append, List.length_singleton]; omega) e4).symm
    · have h9 := N.l (u ++ (q ++ [l])) (by simp only [List.length_append, List.length_singleton]; omega)
      simp only [List.length_append, List.length_singleton] at h9
      rw [wl (p := q ++ [l]) (by rw [List.length_append, List.length_singleton]; omega) (by omega) (N.e (u ++ (q ++ [l])) (by simp only [List.length_append, List.length_singleton]; omega)).symm]
      exact k3
/-- the sums over the row before -/
def totM (x y z : Nat) (r : List W) (M : W → Nat) (t : W) (i : Nat) : Nat := ((([0, 1, 2] : W).take i).map fun l => getN (r.map fun t => (t, M t)) (nfw x y z (t ++ [l]))).sum
theorem row_num {u w0 : W} {n : Nat} {r r' : List W} {M : W → Nat} (hu : u.length ≤ 6) (n0 : Nw x y z w0) (l0 : w0.length ≤ 14) (hn : n + 1 ≤ w0.length) (h : Row x y z u w0 (n + 1) r) (hM : ∀ p ∈ itB x y z [w0] (n + 1), M (nfw x y z (u ++ p)) = RR x y z p) :
    ∀ p ∈ itB x y z [w0] n, totM x y z r M (nfw x y z (u ++ p)) 3 = RR x y z p := by
  intro p hp
  obtain ⟨N, R⟩ := nfm hx hy hz
  have mi := mem_itB hx hy hz n0 l0
  have rw0 := ln_nw hx hy hz n0 (by omega)
  obtain ⟨k1, k2, k3⟩ := (mi n (by omega) p).1 hp
  rw [← RR_step hx hy hz k1 (by omega) (fun e => by rw [e] at k2; simp at k2; omega)]
  rw [← endw_filter (a := x) (b := y) (c := z) (w := p), ← sum_if]
  unfold totM
  rw [List.take_of_length_le (by decide)]
  congr 1
  refine List.map_congr_left fun l _ => ?_
  rw [getN_row]
  have sp := N.l (u ++ p) (by rw [List.length_append]; omega)
  rw [List.length_append] at sp
  have b3 := bel_eqv hx hy hz (u := p) (by omega) l
  have b2 := bel_nw hx hy hz (u := p) (by omega) l
  have b4 := ln_bel hx hy hz (p := p) (by omega) l
  have b5 := ln_self (m := om x y z) (p ++ [l])
  rw [List.length_append, List.length_singleton] at b5
  have e1 : nfw x y z (nfw x y z (u ++ p) ++ [l]) = nfw x y z (u ++ bel x y z p l) := by
    refine N.c _ _ (by rw [List.length_append, List.length_singleton]; omega) (by rw [List.length_append]; omega) ?_
    have a1 := (N.e (u ++ p) (by rw [List.length_append]; omega)).symm.right [l]
    have a2 := b3.left u
    rw [← List.append_assoc] at a2
    exact a1.trans a2
  rw [e1]
  by_cases c : l ∈ endw x y z p
  · have b1 := bel_len hx hy hz (by omega) k1 c
    have hin : bel x y z p l ∈ itB x y z [w0] (n + 1) := by
      refine (mi (n + 1) hn _).2 ⟨b2, by omega, ?_⟩
      have e := ln_eqv (e_pre (w0 := w0) b3)
      have h1 := ln_append (m := om x y z) [l] (p.reverse ++ w0)
      have h2 := ln_self (m := om x y z) [l]
      have h3 := ln_tri hx hy hz (bel x y z p l) w0
      have h4 := ln_self (m := om x y z) (bel x y z p l)
      rw [List.length_singleton] at h2
      omega
    rw [if_pos ((h.2 _).2 ⟨_, hin, rfl⟩), if_pos (decide_eq_true c), hM _ hin]
  · have hr : ¬ nfw x y z (u ++ bel x y z p l) ∈ r := fun hr => by
      obtain ⟨q, hq, e⟩ := (h.2 _).1 hr
      obtain ⟨j1, j2, j3⟩ := (mi (n + 1) hn q).1 hq
      have e2 := row_inj hx hy hz (by omega) (by omega) (by omega) b2 j1 e
      have rp := ln_nw hx hy hz k1 (by omega)
      rcases ln_snoc (m := om x y z) p l with h5 | h5
      · rw [e2] at b4
        omega
      · exact c ((endw_ok hx hy hz (by omega) l).2 h5)
    rw [if_neg hr, if_neg (by simpa using c)]
end

end
end K19

namespace K19
open PySem PySem.Spec PyProof.Rows L2 Cox
section
variable {P : Program} {w : World} {K : PySem.W.Frag} {mg : Str → Option Value} {base : Heap} {cx : Xs}
theorem rd_lc_filterH {wi : TI} {i : Nat} {tt : L2.TT} {te : TE} {vs : List Nat} {σ : L2.St} {H H1 : Hp} {J : It} {G : Hp → Prop} {Q : VK} (xs : List V) (p : V → Bool) (f : V → V) (hw : ∀ R : It → Hp → Prop, R J H1 → wi σ H R) (w : Walk J xs.length G (YAt xs))
    (hG : ∀ D o, H1 D = none → G (upd H1 D o)) (hl : xs.length < sizeLine) (hv : ∀ x, wipe ((wipe σ vs).set i (some x)) vs = wipe σ vs)
    (ht : ∀ x D l (R : Bool → Hp → Prop), H1 D = none → x ∈ xs → R (p x) (upd H1 D (.lst l)) → tt ((wipe σ vs).set i (some x)) (upd H1 D (.lst l)) R)
    (hs : ∀ x D l (R : VK), H1 D = none → x ∈ xs → p x = true → R (f x) (upd H1 D (.lst l)) → te ((wipe σ vs).set i (some x)) (upd H1 D (.lst l)) R)
    (hd : ∀ D, H1 D = none → Q (.ref D) (upd H1 D (.lst ((xs.filter p).map f)))) : tLc wi (gName i) tt te vs σ H Q := by
  refine hw _ fun D hD => ?_
  refine lc_it w (fun j H' => H' = upd H1 D (.lst (((xs.take j).filter p).map f))) (by simp) (fun j H' hj e => by rw [e]; exact hG D _ hD) ?_ ?_
  · rintro j x H' H'' hj rfl ⟨rfl, hx⟩
    have hm : x ∈ xs := List.mem_of_getElem? hx
    have et : xs.take (j + 1) = xs.take j ++ [x] := by rw [List.take_add_one, hx]; rfl
    refine ⟨hv x, ht x D _ _ hD hm ?_⟩
    cases e : p x with
    | true =>
      refine iteT (hs x D _ _ hD hm e ⟨_, upd_same, ?_, ?_⟩)
      · rw [List.length_map]
        exact Nat.lt_of_le_of_lt (Nat.le_trans (List.length_filter_le _ _) (by rw [List.length_take]; exact Nat.min_le_right _ _)) hl
      · rw [upd_upd, et, List.filter_append, List.map_append]
        simp [e]
    | false =>
      refine iteF ?_
      rw [et, List.filter_append]
      simp [e]
  · rintro H' rfl
    rw [List.take_length]
    exact hd D hD

theorem inV_wS (w : W) (ws : List W) : inV (.str (wS w)) ((ws.map wS).map V.str) = decide (w ∈ ws) := by
  unfold inV
  rw [Bool.eq_iff_iff, decide_eq_true_iff, List.map_map, List.any_map, List.any_eq_true]
  constructor
  · rintro ⟨x, hx, e⟩
    have e2 : wS x = wS w := by
      have e3 : eqV (V.str (wS x)) (V.str (wS w)) = true := e
      unfold eqV at e3
      simpa using e3
    rw [← wS_inj e2]
    exact hx
  · intro h
    refine ⟨w, h, ?_⟩
    show eqV (V.str (wS w)) (V.str (wS w)) = true
    unfold eqV
    simp
theorem flat_words (ws : List W) : ((ws.map wS).map V.str).all flatV = true := by
  rw [List.all_eq_true]
  intro x hx
  obtain ⟨y, _, rfl⟩ := List.mem_map.mp hx
  rfl
theorem filter_words (ps qs : List W) : (((ps.map wS).map V.str).filter fun x => !inV x ((qs.map wS).map V.str)).map id = ((ps.filter fun x => decide (x ∉ qs)).map wS).map V.str := by
  rw [List.map_id, List.map_map, List.map_map, List.filter_map]
  rw [List.filter_congr (p := (fun x => !inV x (List.map (V.str ∘ wS) qs)) ∘ (V.str ∘ wS)) (q := fun x => decide (x ∉ qs)) fun x _ => ?_]
  · rw [List.map_map]
  · show (!inV (V.str (wS x)) (qs.map (V.str ∘ wS))) = _
    rw [← List.map_map, inV_wS]
    simp
theorem mirs_short {m : Fin 3 → Fin 3 → Nat} {nf : W → W} (hN : NF m nf) {w x : W} (hw : w.length ≤ 60) (hx : x ∈ mirs nf w) : x.length ≤ 2 * w.length := by
  unfold mirs at hx
  obtain ⟨k, hk, rfl⟩ := List.mem_map.mp hx
  have hk := List.mem_range.mp hk
  unfold mirAt
  have l := hN.l (w.take k ++ (w.drop k).take 1 ++ (w.take k).reverse) (by simp only [List.length_append, List.length_take, List.length_reverse, List.length_drop]; omega)
  simp only [List.length_append, List.length_take, List.length_reverse, List.length_drop] at l
  omega

theorem lc_call {K : PySem.W.Frag} {r : List V → Hp → VK → Prop} {t : TE} {g : TG} {tt : L2.TT} {te : TE} {vs : List Nat} {σ : L2.St} {H : Hp} {Q : VK}
    (h : t σ H fun x H1 => r [x] H1 fun v H2 => ∃ a, v = .ref a ∧ (∃ xs, SqL K H2 a xs) ∧ tLc (fun _ _ R => R (Itl K a) H2) g tt te vs σ H2 Q) : tLc (iList K (tCB r (tCons t tNil))) g tt te vs σ H Q := h
/-- new pairs of lengths and words, one after the other -/
def MkP (us : List W) (H : Hp) (j : Nat) (acc : List V) (H' : Hp) : Prop := Same H H' ∧ ∃ ts : List Addr, acc = ts.map V.ref ∧ ts.length = j ∧ ∀ (i : Nat) (t : Addr), ts[i]? = some t → ∃ u, us[i]? = some u ∧ H' t = some (.tup [.int (u.length : Nat), .str (wS u)])
theorem MkP.new {us : List W} {H : Hp} {D : Addr} (hD : H D = none) : MkP us H 0 [] (upd H D (.lst [])) := ⟨FK.same_new hD, [], rfl, rfl, fun i t e => by cases i <;> cases e⟩
open Classical in
/-- the word of a pair -/
noncomputable def pW (H : Hp) (v : V) : W := if h : ∃ u t, v = V.ref t ∧ H t = some (.tup [.int ((u : W).length : Nat), .str (wS u)]) then h.choose else []
theorem pW_at {H : Hp} {t : Addr} {u : W} (h : H t = some (.tup [.int (u.length : Nat), .str (wS u)])) : pW H (.ref t) = u := by
  have hh : ∃ u t', V.ref t = V.ref t' ∧ H t' = some (.tup [.int ((u : W).length : Nat), .str (wS u)]) := ⟨u, t, rfl, h⟩
  unfold pW
  rw [dif_pos hh]
  obtain ⟨t', e1, e2⟩ := hh.choose_spec
  cases e1
  rw [h] at e2
  have e3 := HO.tup.inj (Option.some.inj e2)
  injection e3 with _ e4
  injection e4 with e5 _
  exact (wS_inj (V.str.inj e5)).symm
def spSorted (K : PySem.W.Frag) : Sp := fun vs H Q _ => ∃ (l : Addr) (us : List W), vs = [.ref l] ∧ H l = some (.lst ((us.map wS).map V.str)) ∧ us.length ≤ 4000 ∧ (∀ u ∈ us, u.length ≤ 500) ∧
  ∀ (ys : List W) p H', ys.Perm us → ys.Pairwise ole → H p = none → H' p = some (.lst ((ys.map wS).map V.str)) → Same H H' → Q (.ref p) H'
theorem ok_law_sorted (T : Txt K mg cx) : FK.Has P w K mg base CX0 1 "_law_sorted" ["words"] (spSorted K) := by
  refine T.d_law_sorted.ok sc_law_sorted (fun vs H Q E h => ?_) (fun f cdv A outer s H vs Q E hr h => ?_)
  · obtain ⟨l, us, rfl, _⟩ := h
    rfl
  · obtain ⟨l, us, rfl, hl, hn, hb, q⟩ := h
    refine ⟨_, (pss_one (ps_ret (pe_lc (own := [("size", 1), ("word", 2)]) (g := gTup _ 2 (gCons (gName 1) (gCons (gName 2) gNil))) (tt := tYes) rfl sc_law_sorted.nd (pi_list (pe_callB FK.cr_sortIS (by rfl) T.n_sorted (by decide +kernel) (pa_cons (pe_lc (own := [("word", 2)]) (g := gName 2) (tt := tYes) rfl sc_law_sorted.nd (pi_list (pv 0)) (blkOk_by (own := [("word", 2)]) (N := ["words", "size", "word"]) (sc := defScope s_law_sorted) (by decide +kernel)) (fun _ _ _ _ _ => (pg_name (i := 2) sc_law_sorted.nd rfl (Or.inl rfl))) (fun _ _ _ _ _ => pts_nil) (fun _ _ _ _ _ => (pe_tup (pa_cons (pe_callB call_len_str (by rfl) T.n_len PySem.boot_len (pa_cons (pv 2) pa_nil)) (pa_cons (pv 2) pa_nil))))) pa_nil))) (blkOk_by (own := [("size", 1), ("word", 2)]) (N := ["words", "size", "word"]) (sc := defScope s_law_sorted) (by decide +kernel)) (fun _ _ _ _ _ => (pg_tup rfl (pgs_cons (pg_name (i := 1) sc_law_sorted.nd rfl (Or.inl rfl)) (pgs_cons (pg_name (i := 2) sc_law_sorted.nd rfl (Or.inl rfl)) pgs_nil)))) (fun _ _ _ _ _ => pts_nil) (fun _ _ _ _ _ => (pv 2))))), ?_⟩
    simp only [tSeq, tIfS, tOr, tAnd, tB, tTest, tCB, tCons, tVar, tC, tNil, tNot, tNotV, tRet, tRetN, tNext, tBreak, tOrV, tAndV, tOp, tUn, rEq, rNe, tChain, rI0, rI, rU, tAsg, gName, tDrop, tAug, ipI, tIf, tCall, tCallS, tLst, tTup, tBM, tBM0, rAppend, rExtend, rPop, rReverse, tyV, rIxL, rIxT, rIxS, rIsB, rNotB, L2.start, List.map_cons, List.map_nil, List.length_cons, List.length_nil, List.replicate, List.cons_append, List.nil_append, List.append_nil, List.getElem?_cons_zero, List.getElem?_cons_succ, List.set_cons_zero, List.set_cons_succ, Nat.reduceAdd, Nat.reduceSub, Option.some.injEq, exists_eq_left', exists_eq_left, V.int.injEq, V.bl.injEq, V.str.injEq, V.ref.injEq, List.cons.injEq, and_true, true_and, and_assoc, reduceCtorEq, false_and, exists_false, or_false, false_or, exists_and_left, exists_const, scal, Int.reduceLT, Int.reduceLE, Int.reduceSub, Int.reduceAdd, Int.reduceNeg, if_true, if_false]
    have ok0 : ∀ H', Same H H' → SqL K H' l ((us.map wS).map V.str) := fun H' s' => SqL.of (s' _ _ hl)
    have n0 : (((us.map wS).map V.str)).length = us.length := by simp
    refine lc_call ?_
    refine FK.rd_lc (J := Itl K l) (H1 := H) (fun R r => ⟨_, rfl, l, rfl, ⟨_, SqL.of hl⟩, r⟩) walk_list
      (MkP us H) (fun D hD => MkP.new hD) ?_ ?_ (by rw [n0]; exact Nat.lt_of_le_of_lt hn (by decide)) (fun _ => rfl) ?_ ?_
    · rintro D i acc y H' hD hD2 ⟨s1, ts, e1, e2, e3⟩
      refine ⟨FK.same_at hD s1, ts, e1, e2, fun i t e => ?_⟩
      obtain ⟨u, h1, h2⟩ := e3 i t e
      exact ⟨u, h1, by rw [upd_ne (fun z => by rw [z, hD2] at h2; cases h2)]; exact h2⟩
    · rintro i acc H' _ ⟨s1, _⟩
      exact ok0 H' s1
    · rintro D j x acc H1 H2 R hD hj la ⟨s1, ts, rfl, e2, e3⟩ hD2 ⟨rfl, hx⟩ go
      rw [List.getElem?_map, List.getElem?_map] at hx
      obtain ⟨u, hu⟩ : ∃ u, us[j]? = some u := by
        cases e : us[j]? with
        | none => rw [e] at hx; cases hx
        | some u => exact ⟨u, rfl⟩
      rw [hu] at hx
      obtain rfl : V.str (wS u) = x := Option.some.inj hx
      rw [show (wipe [some (.ref l), none, none] [2]).set 2 (some (V.str (wS u))) = [some (.ref l), none, some (V.str (wS u))] from rfl]
      simp only [tSeq, tIfS, tOr, tAnd, tB, tTest, tCB, tCons, tVar, tC, tNil, tNot, tNotV, tRet, tRetN, tNext, tBreak, tOrV, tAndV, tOp, tUn, rEq, rNe, tChain, rI0, rI, rU, tAsg, gName, tDrop, tAug, ipI, tIf, tCall, tCallS, tLst, tTup, tBM, tBM0, rAppend, rExtend, rPop, rReverse, tyV, rIxL, rIxT, rIxS, rIsB, rNotB, L2.start, List.map_cons, List.map_nil, List.length_cons, List.length_nil, List.replicate, List.cons_append, List.nil_append, List.append_nil, List.getElem?_cons_zero, List.getElem?_cons_succ, List.set_cons_zero, List.set_cons_succ, Nat.reduceAdd, Nat.reduceSub, Option.some.injEq, exists_eq_left', exists_eq_left, V.int.injEq, V.bl.injEq, V.str.injEq, V.ref.injEq, List.cons.injEq, and_true, true_and, and_assoc, reduceCtorEq, false_and, exists_false, or_false, false_or, exists_and_left, exists_const, scal, Int.reduceLT, Int.reduceLE, Int.reduceSub, Int.reduceAdd, Int.reduceNeg, if_true, if_false]
      have lu : u.length ≤ 500 := hb u (List.mem_of_getElem? hu)
      refine ⟨zw (by omega), by decide, fun p hp => go _ _ (by rw [upd_ne (fun z => by rw [z, hp] at hD2; cases hD2)]; exact hD2) ⟨s1.trans (FK.same_new hp), ts ++ [p], by rw [List.map_append]; rfl, by rw [List.length_append, e2]; rfl, fun i t e => ?_⟩⟩
      rcases Nat.lt_or_ge i ts.length with c | c
      · rw [List.getElem?_append_left c] at e
        obtain ⟨u', h1, h2⟩ := e3 i t e
        exact ⟨u', h1, FK.same_new hp _ _ h2⟩
      · rw [List.getElem?_append_right c] at e
        have ei : i = ts.length := by
          have := (List.getElem?_eq_some_iff.mp e).1
          simp at this
          omega
        subst ei
        rw [Nat.sub_self] at e
        obtain rfl : p = t := by simpa using e
        exact ⟨u, by rw [e2]; exact hu, by rw [upd_same, wS_len]⟩
    · rintro D acc H1 hD la ⟨s1, ts, rfl, e2, e3⟩ hD2
      have ltu : ts.length = us.length := by rw [e2, n0]
      have kk : ts.map (fun t => pW H1 (.ref t)) = us := by
        apply List.ext_getElem?
        intro i
        rw [List.getElem?_map]
        cases e : ts[i]? with
        | none =>
          rw [List.getElem?_eq_none_iff] at e
          exact (List.getElem?_eq_none_iff.mpr (by omega)).symm
        | some t =>
          obtain ⟨u, h1, h2⟩ := e3 i t e
          rw [h1, Option.map_some, pW_at h2]
      have at' : ∀ x ∈ ts.map V.ref, ∃ t, x = V.ref t ∧ H1 t = some (.tup [.int ((pW H1 x).length : Nat), .str (wS (pW H1 x))]) := fun x hx => by
        obtain ⟨t, ht, rfl⟩ := List.mem_map.mp hx
        obtain ⟨i, hi⟩ := List.mem_iff_getElem?.mp ht
        obtain ⟨u, h1, h2⟩ := e3 i t hi
        exact ⟨t, rfl, by rw [pW_at h2]; exact h2⟩
      refine ⟨D, ts.map V.ref, fun v => (((pW H1 v).length : Nat), wS (pW H1 v)), rfl, SqL.of hD2, at', fun ys p pm pw hp => ⟨p, rfl, ⟨_, SqL.of upd_same⟩, ?_⟩⟩
      have pmW : (ys.map (pW H1)).Perm us := by
        have h := pm.map (pW H1)
        rw [List.map_map] at h
        rw [← kk]
        exact h
      have pwW : (ys.map (pW H1)).Pairwise ole := by
        refine List.pairwise_map.mpr (pw.imp fun {x y} h => ?_)
        rcases FK.lexS_no.mp h with ⟨c, d⟩ | ⟨c, d⟩
        · have c : (pW H1 x).length = (pW H1 y).length := by
            have : (((pW H1 y).length : Nat) : Int) = ((pW H1 x).length : Nat) := c
            omega
          exact .inr ⟨c, lx_lt c d⟩
        · have c : ¬ (((pW H1 y).length : Nat) : Int) = ((pW H1 x).length : Nat) := c
          have d : ¬ (((pW H1 y).length : Nat) : Int) < ((pW H1 x).length : Nat) := d
          exact .inl (by omega)
      have ly : ys.length = us.length := by rw [← pmW.length_eq, List.length_map]
      have hpD : p ≠ D := fun z => by rw [z, hD2] at hp; cases hp
      have eP : ∀ H', Same (upd H1 p (.lst ys)) H' → SqL K H' p ys := fun H' s' => SqL.of (s' _ _ upd_same)
      refine fun D2 hD3 => ?_
      refine lc_it (walk_list (K := K) (a := p) (xs := ys)) (fun j H' => Same (upd H1 p (.lst ys)) H' ∧ H' D2 = some (.lst ((((ys.take j).map (pW H1)).map wS).map V.str)))
        ⟨FK.same_new hD3, upd_same⟩ (fun j H' _ z => eP H' z.1) ?_ ?_
      · rintro j x H3 H4 hj ⟨s3, e4⟩ ⟨rfl, hx⟩
        obtain ⟨t, rfl, ht⟩ := at' x (pm.mem_iff.mp (List.mem_of_getElem? hx))
        have ht3 : H4 t = some (.tup [.int ((pW H1 (.ref t)).length : Nat), .str (wS (pW H1 (.ref t)))]) := s3 _ _ (FK.same_new hp _ _ ht)
        refine ⟨t, _, rfl, SqT.of ht3, rfl, _, _, rfl, _, _, rfl, rfl, rfl, ?_⟩
        simp only [tSeq, tIfS, tOr, tAnd, tB, tTest, tCB, tCons, tVar, tC, tNil, tNot, tNotV, tRet, tRetN, tNext, tBreak, tOrV, tAndV, tOp, tUn, rEq, rNe, tChain, rI0, rI, rU, tAsg, gName, tDrop, tAug, ipI, tIf, tCall, tCallS, tLst, tTup, tBM, tBM0, rAppend, rExtend, rPop, rReverse, tyV, rIxL, rIxT, rIxS, rIsB, rNotB, L2.start, List.map_cons, List.map_nil, List.length_cons, List.length_nil, List.replicate, List.cons_append, List.nil_append, List.append_nil, List.getElem?_cons_zero, List.getElem?_cons_succ, List.set_cons_zero, List.set_cons_succ, Nat.reduceAdd, Nat.reduceSub, Option.some.injEq, exists_eq_left', exists_eq_left, V.int.injEq, V.bl.injEq, V.str.injEq, V.ref.injEq, List.cons.injEq, and_true, true_and, and_assoc, reduceCtorEq, false_and, exists_false, or_false, false_or, exists_and_left, exists_const, scal, Int.reduceLT, Int.reduceLE, Int.reduceSub, Int.reduceAdd, Int.reduceNeg, if_true, if_false, wipe]
        have et : ys.take (j + 1) = ys.take j ++ [V.ref t] := by rw [List.take_add_one, hx]; rfl
        refine iteT (B := Same (upd H1 p (.lst ys)) H4 ∧ H4 D2 = some (.lst ((((ys.take (j + 1)).map (pW H1)).map wS).map V.str))) ?_
        refine ⟨_, e4, ?_, FK.same_at hD3 s3, ?_⟩
        · rw [List.length_map, List.length_map, List.length_map, List.length_take]
          exact Nat.lt_of_le_of_lt (Nat.min_le_right _ _) (Nat.lt_of_le_of_lt (show ys.length ≤ 4000 by omega) (by decide))
        · rw [upd_same, et, List.map_append, List.map_append, List.map_append]
          rfl
      · rintro H3 ⟨s3, e4⟩
        rw [List.take_length] at e4
        refine q (ys.map (pW H1)) D2 H3 pmW pwW ?_ e4 ((s1.trans (FK.same_new hp)).trans s3)
        exact back (s1.trans (FK.same_new hp)) hD3

def spApart (K : PySem.W.Frag) (CT CF : Addr) : Sp := fun vs H Q _ => ∃ (t f n o d : Addr) (a b c k : Nat) (u v : W), vs = [.ref t, .str (wS u), .str (wS v)] ∧ Sv K CT CF H o t f n d a b c k ∧ u.length ≤ 60 ∧ v.length ≤ 60 ∧ k ≤ 1000000 ∧
  ∀ H', Sv K CT CF H' o t f n d a b c (k + 1) → But2 d n H H' → Q (.int ((nfw a b c (u.reverse ++ v)).length : Nat)) H'
theorem ok_law_apart (T : Txt K mg cx) : FK.Has P w K mg base CX0 8 "_law_apart" ["floor", "one", "other"] (spApart K cx.Tiles cx.Floor) := by
  have H_Tiles_normal := ok_Tiles_normal (P := P) (w := w) (mg := mg) (base := base) T
  refine T.d_law_apart.ok sc_law_apart (fun vs H Q E h => ?_) (fun f' cdv A outer s H vs Q E hr h => ?_)
  · obtain ⟨t, f, n, o, d, a, b, c, k, u, v, rfl, _⟩ := h
    rfl
  · obtain ⟨t, f, n, o, d, a, b, c, k, u, v, rfl, S, hu, hv, hk, q⟩ := h
    refine ⟨_, (pss_one (ps_ret (pe_callB call_len_str (by rfl) T.n_len PySem.boot_len (pa_cons (FK.pe_m (E := E0) (pv 0) T.cl_Tiles H_Tiles_normal (hr.mono (by decide)) FK.pass1 (pa_cons (pe_op op_add_str (FK.pe_revS (pv 1)) (pv 2)) pa_nil)) pa_nil)))), ?_⟩
    simp only [tSeq, tIfS, tOr, tAnd, tB, tTest, tCB, tCons, tVar, tC, tNil, tNot, tNotV, tRet, tRetN, tNext, tBreak, tOrV, tAndV, tOp, tUn, rEq, rNe, tChain, rI0, rI, rU, tAsg, gName, tDrop, tAug, ipI, tIf, tCall, tCallS, tLst, tTup, tBM, tBM0, rAppend, rExtend, rPop, rReverse, tyV, rIxL, rIxT, rIxS, rIsB, rNotB, L2.start, List.map_cons, List.map_nil, List.length_cons, List.length_nil, List.replicate, List.cons_append, List.nil_append, List.append_nil, List.getElem?_cons_zero, List.getElem?_cons_succ, List.set_cons_zero, List.set_cons_succ, Nat.reduceAdd, Nat.reduceSub, Option.some.injEq, exists_eq_left', exists_eq_left, V.int.injEq, V.bl.injEq, V.str.injEq, V.ref.injEq, List.cons.injEq, and_true, true_and, and_assoc, reduceCtorEq, false_and, exists_false, or_false, false_or, exists_and_left, exists_const, scal, Int.reduceLT, Int.reduceLE, Int.reduceSub, Int.reduceAdd, Int.reduceNeg, if_true, if_false, tMeth, FK.tRevS]
    obtain ⟨dx, t1⟩ := S.tl.ob
    have hn := (nfw_ok S.g.ha S.g.hb S.g.hc (w := u.reverse ++ v) (by simp; omega)).2.2.1
    have hn2 := ln_self (m := om a b c) (u.reverse ++ v)
    rw [List.length_append, List.length_reverse] at hn2
    refine ⟨dx, _, t1, fldsT_no _ _ (by decide +kernel) (by decide +kernel), zw (by omega), ?_⟩
    rw [wS_rev, wS_app]
    refine ⟨by rw [wS_len, wS_len]; exact zl _ (by rw [List.length_reverse]; omega), t, f, n, o, d, a, b, c, k, u.reverse ++ v, rfl, S.tl, by rw [List.length_append, List.length_reverse]; omega, hk, fun H' Tl b2 => ⟨_, rfl, by rw [wS_len]; exact zl _ (by omega), ?_⟩⟩
    rw [wS_len]
    exact q H' (S.nrm Tl b2) b2
/-- a list of rows of tiles -/
structure RowsAt (H : Hp) (R : Addr) (ar : List (Addr × List W)) : Prop where
  r : H R = some (.lst (ar.map fun p => V.ref p.1))
  e : ∀ p ∈ ar, H p.1 = some (.lst ((p.2.map wS).map V.str))
theorem RowsAt.same {H H' : Hp} {R : Addr} {ar : List (Addr × List W)} (h : RowsAt H R ar) (s : Same H H') : RowsAt H' R ar := ⟨s _ _ h.r, fun p hp => s _ _ (h.e p hp)⟩
theorem RowsAt.but {CT CF : Addr} {H H' : Hp} {R o t f n d : Addr} {x y z k : Nat} {ar : List (Addr × List W)} (h : RowsAt H R ar) (S : Sv K CT CF H o t f n d x y z k) (b : But2 d n H H') : RowsAt H' R ar :=
  ⟨b _ _ (S.nel h.r).2 (S.nel h.r).1 h.r, fun p hp => b _ _ (S.nel (h.e p hp)).2 (S.nel (h.e p hp)).1 (h.e p hp)⟩
theorem RowsAt.upd {H H' : Hp} {R P : Addr} {ar : List (Addr × List W)} (h : RowsAt H R ar) (fr : ∀ b u, b ≠ P → H b = some u → H' b = some u) (nR : R ≠ P) (nA : ∀ p ∈ ar, p.1 ≠ P) : RowsAt H' R ar := ⟨fr _ _ nR h.r, fun p hp => fr _ _ (nA p hp) (h.e p hp)⟩
theorem RowsAt.new {H : Hp} {R P : Addr} {ar : List (Addr × List W)} (h : RowsAt H R ar) (hP : H P = none) : R ≠ P ∧ ∀ p ∈ ar, p.1 ≠ P := ⟨fun z => (by have := h.r; rw [z, hP] at this; cases this), fun p hp z => (by have := h.e p hp; rw [z, hP] at this; cases this)⟩
def spAll (K : PySem.W.Frag) (CT CF : Addr) : Sp := fun vs H Q _ => ∃ (t f n o d : Addr) (a b c k : Nat) (u v : W), vs = [.ref t, .str (wS u), .str (wS v)] ∧ Sv K CT CF H o t f n d a b c k ∧ u.length ≤ 6 ∧ v.length ≤ 6 ∧ k ≤ 100000 ∧
  ∀ (ar : List (Addr × List W)) R H', ar.length = (nfw a b c (u.reverse ++ v)).length + 1 → (∀ j p, ar[j]? = some p → Row a b c u (nfw a b c (u.reverse ++ v)) ((nfw a b c (u.reverse ++ v)).length - j) p.2) → RowsAt H' R ar → Sv K CT CF H' o t f n d a b c (k + 100000) → But2 d n H H' → Q (.ref R) H'
theorem ok_law_all (T : Txt K mg cx) : FK.Has P w K mg base CX0 9 "_law_all" ["floor", "one", "other"] (spAll K cx.Tiles cx.Floor) := by
  have H_Tiles_normal := ok_Tiles_normal (P := P) (w := w) (mg := mg) (base := base) T
  have H_law_apart := ok_law_apart (P := P) (w := w) (base := base) T
  refine T.d_law_all.ok sc_law_all (fun vs H Q E h => ?_) (fun f' cdv A outer s H vs Q E hr h => ?_)
  · obtain ⟨t, f, n, o, d, a, b, c, k, u, v, rfl, _⟩ := h
    rfl
  · obtain ⟨t, f, n, o, d, a, b, c, k, u, v, rfl, S, hu, hv, hk, q⟩ := h
    refine ⟨_, (pss_cons (ps_set (i := 3) sc_law_all.nd rfl (Or.inl rfl) (by exact (FK.pe_h (E := E0) H_law_apart (hr.mono (by decide)) pass0 (pa_cons (pv 0) (pa_cons (pv 1) (pa_cons (pv 2) pa_nil))))))
  (pss_cons (ps_set (i := 4) sc_law_all.nd rfl (Or.inl rfl) (by exact (pe_lst (pa_cons (pe_lst (pa_cons (FK.pe_m (E := E0) (pv 0) T.cl_Tiles H_Tiles_normal (hr.mono (by decide)) FK.pass1 (pa_cons (pv 1) pa_nil)) pa_nil)) pa_nil))))
  (pss_cons (ps_for PassesOwn.never rfl (pi_range1 rfl T.n_range (pa_cons (pv 3) pa_nil)) (pg_name (i := 5) sc_law_all.nd rfl (Or.inl rfl))
  (pss_cons (ps_set (i := 6) sc_law_all.nd rfl (Or.inl rfl) (by exact (pe_lst pa_nil)))
  (pss_cons (ps_for PassesOwn.never rfl (pi_list (pe_ix (r := rIxL K) ix_list (pv 4) (pe_op op_sub (pe_callB call_len_seq (by rfl) T.n_len PySem.boot_len (pa_cons (pv 4) pa_nil)) pe_int) (fun _ _ => rfl))) (pg_name (i := 7) sc_law_all.nd rfl (Or.inl rfl))
  (pss_one (ps_for PassesOwn.never rfl (pi_str pe_str) (pg_name (i := 8) sc_law_all.nd rfl (Or.inl rfl))
  (pss_cons (ps_set (i := 9) sc_law_all.nd rfl (Or.inl rfl) (by exact (FK.pe_m (E := E0) (pv 0) T.cl_Tiles H_Tiles_normal (hr.mono (by decide)) FK.pass1 (pa_cons (pe_op op_add_str (pv 7) (pv 8)) pa_nil))))
  (pss_one (ps_if (PW.pt (pw_and (pt_cmpR (show OpR _ (compareOp .NotIn) (rIn K true) from op_notIn_seq) (pv 9) (pv 6) (by rfl)) (pw_and1 (pt_cmpR op_eq (FK.pe_h (E := E0) H_law_apart (hr.mono (by decide)) pass0 (pa_cons (pv 0) (pa_cons (pv 9) (pa_cons (pv 2) pa_nil)))) (pe_op op_sub (pe_op op_sub (pv 3) (pv 5)) pe_int) (nomark _))))) (pss_one (ps_expr (pe_bm PySem.F.plainAttrs_list PySem.F.slot_list_append PySem.F.type_list_append mt_append (pv 6) (pa_cons (pv 9) pa_nil)))) pss_nil))))))
  (pss_one (ps_expr (pe_bm PySem.F.plainAttrs_list PySem.F.slot_list_append PySem.F.type_list_append mt_append (pv 4) (pa_cons (pv 6) pa_nil)))))))
  (pss_one (ps_ret (pv 4)))))), ?_⟩
    simp only [tSeq, tIfS, tOr, tAnd, tB, tTest, tCB, tCons, tVar, tC, tNil, tNot, tNotV, tRet, tRetN, tNext, tBreak, tOrV, tAndV, tOp, tUn, rEq, rNe, tChain, rI0, rI, rU, tAsg, gName, tDrop, tAug, ipI, tIf, tCall, tCallS, tLst, tTup, tBM, tBM0, rAppend, rExtend, rPop, rReverse, tyV, rIxL, rIxT, rIxS, rIsB, rNotB, L2.start, List.map_cons, List.map_nil, List.length_cons, List.length_nil, List.replicate, List.cons_append, List.nil_append, List.append_nil, List.getElem?_cons_zero, List.getElem?_cons_succ, List.set_cons_zero, List.set_cons_succ, Nat.reduceAdd, Nat.reduceSub, Option.some.injEq, exists_eq_left', exists_eq_left, V.int.injEq, V.bl.injEq, V.str.injEq, V.ref.injEq, List.cons.injEq, and_true, true_and, and_assoc, reduceCtorEq, false_and, exists_false, or_false, false_or, exists_and_left, exists_const, scal, Int.reduceLT, Int.reduceLE, Int.reduceSub, Int.reduceAdd, Int.reduceNeg, if_true, if_false, tMeth]
    refine ⟨t, f, n, o, d, a, b, c, k, u, v, rfl, S, by omega, by omega, by omega, fun H1 S1 b1 => ?_⟩
    obtain ⟨dx, t1⟩ := S1.tl.ob
    have hx := S.g.ha
    have hy := S.g.hb
    have hz := S.g.hc
    obtain ⟨N, R0⟩ := nfm hx hy hz
    have l0 : (nfw a b c (u.reverse ++ v)).length ≤ 12 := by
      have := N.l (u.reverse ++ v) (by rw [List.length_append, List.length_reverse]; omega)
      rw [List.length_append, List.length_reverse] at this
      omega
    have n0 : Nw a b c (nfw a b c (u.reverse ++ v)) := N.c _ _ (by omega) (by rw [List.length_append, List.length_reverse]; omega) (N.e _ (by rw [List.length_append, List.length_reverse]; omega)).symm
    have rstep := fun {n : Nat} {r ys : List W} => row_step hx hy hz (u := u) (v := v) (n := n) (r := r) (ys := ys) (by omega) (by omega)
    generalize nfw a b c (u.reverse ++ v) = w0 at *
    refine ⟨dx, _, t1, fldsT_no _ _ (by decide +kernel) (by decide +kernel), t, f, n, o, d, a, b, c, k + 1, u, rfl, S1.tl, by omega, by omega, fun H2 T2 b2 => ?_⟩
    have S2 := S1.nrm T2 b2
    refine ⟨by decide, fun p0 hp0 => ⟨by decide, fun R hR => ?_⟩⟩
    have nR0 : p0 ≠ R := fun z => by rw [← z, upd_same] at hR; cases hR
    have hR2 : H2 R = none := by rw [upd_ne nR0.symm] at hR; exact hR
    have bk : ∀ {p : Addr}, H2 p = none → H p = none := fun {p} hp => by
      have n1 := (S2.nes hp)
      cases e : H p with
      | none => rfl
      | some v => rw [b2 p v n1.2 n1.1 (b1 p v n1.2 n1.1 e)] at hp; cases hp
    have S3 : Sv K cx.Tiles cx.Floor (upd (upd H2 p0 (.lst [V.str (wS (nfw a b c u))])) R (.lst [V.ref p0])) o t f n d a b c (k + 2) := (S2.same (FK.same_new hp0)).same (FK.same_new hR)
    have b3 : But2 d n H (upd (upd H2 p0 (.lst [V.str (wS (nfw a b c u))])) R (.lst [V.ref p0])) := fun x v h1 h2 e => FK.same_new hR _ _ (FK.same_new hp0 _ _ (b2 _ _ h1 h2 (b1 _ _ h1 h2 e)))
    have hRH := bk hR2
    refine FK.rd_for (J := Itr 0 w0.length) (fun R r => by simp only [tSeq, tIfS, tOr, tAnd, tB, tTest, tCB, tCons, tVar, tC, tNil, tNot, tNotV, tRet, tRetN, tNext, tBreak, tOrV, tAndV, tOp, tUn, rEq, rNe, tChain, rI0, rI, rU, tAsg, gName, tDrop, tAug, ipI, tIf, tCall, tCallS, tLst, tTup, tBM, tBM0, rAppend, rExtend, rPop, rReverse, tyV, rIxL, rIxT, rIxS, rIsB, rNotB, L2.start, List.map_cons, List.map_nil, List.length_cons, List.length_nil, List.replicate, List.cons_append, List.nil_append, List.append_nil, List.getElem?_cons_zero, List.getElem?_cons_succ, List.set_cons_zero, List.set_cons_succ, Nat.reduceAdd, Nat.reduceSub, Option.some.injEq, exists_eq_left', exists_eq_left, V.int.injEq, V.bl.injEq, V.str.injEq, V.ref.injEq, List.cons.injEq, and_true, true_and, and_assoc, reduceCtorEq, false_and, exists_false, or_false, false_or, exists_and_left, exists_const, scal, Int.reduceLT, Int.reduceLE, Int.reduceSub, Int.reduceAdd, Int.reduceNeg, if_true, if_false, iRng1]; exact ⟨by omega, by omega, by rw [show ((w0.length : Nat) : Int).toNat = w0.length by omega]; exact r⟩) walk_nat
      (fun i σ H' => ∃ (ar : List (Addr × List W)) (v5 v6 v7 v8 v9 : Option V), σ = [some (.ref t), some (.str (wS (u))), some (.str (wS (v))), some (V.int ((w0.length))), some (.ref R), v5, v6, v7, v8, v9] ∧ ar.length = i + 1 ∧ (∀ j p, ar[j]? = some p → Row a b c u w0 (w0.length - j) p.2) ∧ RowsAt H' R ar ∧ Sv K cx.Tiles cx.Floor H' o t f n d a b c (k + 2 + 5000 * i) ∧ But2 d n H H')
      ⟨[(p0, [nfw a b c u])], none, none, none, none, none, rfl, rfl, fun j p hj => ?_, ⟨upd_same, fun p hp => by rw [List.mem_singleton.mp hp]; show upd _ R _ p0 = _; rw [upd_ne nR0, upd_same]; rfl⟩, S3, b3⟩ (fun _ _ _ _ _ => trivial) ?_ ?_
    · match j, hj with
      | 0, hj =>
        cases hj
        exact row_start hx hy hz n0 (by omega)
      | j + 1, hj => simp at hj
    · rintro i x' σ Ha Hb hi ⟨ar, v5, v6, v7, v8, v9, rfl, hla, hrw, ra, Sa, ba⟩ ⟨rfl, hx'⟩
      cases hx'
      simp only [tSeq, tIfS, tOr, tAnd, tB, tTest, tCB, tCons, tVar, tC, tNil, tNot, tNotV, tRet, tRetN, tNext, tBreak, tOrV, tAndV, tOp, tUn, rEq, rNe, tChain, rI0, rI, rU, tAsg, gName, tDrop, tAug, ipI, tIf, tCall, tCallS, tLst, tTup, tBM, tBM0, rAppend, rExtend, rPop, rReverse, tyV, rIxL, rIxT, rIxS, rIsB, rNotB, L2.start, List.map_cons, List.map_nil, List.length_cons, List.length_nil, List.replicate, List.cons_append, List.nil_append, List.append_nil, List.getElem?_cons_zero, List.getElem?_cons_succ, List.set_cons_zero, List.set_cons_succ, Nat.reduceAdd, Nat.reduceSub, Option.some.injEq, exists_eq_left', exists_eq_left, V.int.injEq, V.bl.injEq, V.str.injEq, V.ref.injEq, List.cons.injEq, and_true, true_and, and_assoc, reduceCtorEq, false_and, exists_false, or_false, false_or, exists_and_left, exists_const, scal, Int.reduceLT, Int.reduceLE, Int.reduceSub, Int.reduceAdd, Int.reduceNeg, if_true, if_false]
      refine ⟨Nat.zero_le _, fun P hP => ?_⟩
      obtain ⟨nPR, nPA⟩ := ra.new hP
      have hPH : H P = none := by
        have n1 := Sa.nes hP
        cases e : H P with
        | none => rfl
        | some v => rw [ba P v n1.2 n1.1 e] at hP; cases hP
      have nP := Sa.nes hP
      have hii := List.getElem?_eq_getElem (show i < ar.length by omega)
      have hrow := hrw i _ hii
      have hmem := List.getElem_mem (show i < ar.length by omega)
      generalize ar[i]'(by omega) = pl at hii hrow hmem
      have lr : pl.2.length ≤ 729 := by
        have h1 := (row_perm hx hy hz hrow n0 (by omega) (by omega) (by omega)).length_eq
        rw [List.length_map] at h1
        have h2 := few_itB hx hy hz n0 l0 (n := w0.length - i) (by omega)
        have h3 := Nat.pow_le_pow_right (n := 3) (by decide) (show min (w0.length - i) (12 - (w0.length - i)) ≤ 6 by omega)
        omega
      have ra1 := ra.same (FK.same_new (o := HO.lst []) hP)
      refine FK.for_lst ?_
      simp only [tSeq, tIfS, tOr, tAnd, tB, tTest, tCB, tCons, tVar, tC, tNil, tNot, tNotV, tRet, tRetN, tNext, tBreak, tOrV, tAndV, tOp, tUn, rEq, rNe, tChain, rI0, rI, rU, tAsg, gName, tDrop, tAug, ipI, tIf, tCall, tCallS, tLst, tTup, tBM, tBM0, rAppend, rExtend, rPop, rReverse, tyV, rIxL, rIxT, rIxS, rIsB, rNotB, L2.start, List.map_cons, List.map_nil, List.length_cons, List.length_nil, List.replicate, List.cons_append, List.nil_append, List.append_nil, List.getElem?_cons_zero, List.getElem?_cons_succ, List.set_cons_zero, List.set_cons_succ, Nat.reduceAdd, Nat.reduceSub, Option.some.injEq, exists_eq_left', exists_eq_left, V.int.injEq, V.bl.injEq, V.str.injEq, V.ref.injEq, List.cons.injEq, and_true, true_and, and_assoc, reduceCtorEq, false_and, exists_false, or_false, false_or, exists_and_left, exists_const, scal, Int.reduceLT, Int.reduceLE, Int.reduceSub, Int.reduceAdd, Int.reduceNeg, if_true, if_false]
      refine ⟨_, .inl (SqL.of ra1.r), _, SqL.of ra1.r, V.ref pl.1, ?_, pl.1, rfl, ⟨_, SqL.of (ra1.e _ hmem)⟩, ?_⟩
      · rw [List.length_map, hla, show (((i + 1 : Nat) : Int) - 1) = ((i : Nat) : Int) by omega]
        refine atI_nat ?_
        rw [List.getElem?_map, hii]
        rfl
      have llen : ((pl.2.map wS).map V.str).length = pl.2.length := by rw [List.length_map, List.length_map]
      refine FK.rd_for (J := Itl K pl.1) (H1 := upd Hb P (.lst [])) (fun R r => r) (walk_list (xs := (pl.2.map wS).map V.str))
        (fun j σ H' => ∃ (ys : List W) (v7 v8 v9 : Option V), σ = [some (.ref t), some (.str (wS (u))), some (.str (wS (v))), some (V.int ((w0.length))), some (.ref R), some (V.int i), some (.ref P), v7, v8, v9] ∧ H' P = some (.lst ((ys.map wS).map V.str)) ∧ ys.Nodup ∧ ys.length ≤ 3 * j ∧
          (∀ y, y ∈ ys ↔ ∃ s ∈ pl.2.take j, ∃ l : Fin 3, y = nfw a b c (s ++ [l]) ∧ (nfw a b c (y.reverse ++ v)).length = w0.length - (i + 1)) ∧ RowsAt H' R ar ∧ Sv K cx.Tiles cx.Floor H' o t f n d a b c (k + 2 + 5000 * i + 6 * j) ∧ But2 d n H H')
        ⟨[], v7, v8, v9, rfl, upd_same, List.Pairwise.nil, Nat.zero_le _, fun y => by simp, ra1, Sa.same (FK.same_new hP), fun x v h1 h2 e => FK.same_new hP _ _ (ba x v h1 h2 e)⟩ (fun j σ H' _ ⟨_, _, _, _, _, _, _, _, _, r', _⟩ => SqL.of (r'.e _ hmem)) ?_ ?_
      · rintro j x' σ Hc Hd hj ⟨ys, v7, v8, v9, rfl, eP, nd, ly, hm, rc, Sc, bc⟩ ⟨rfl, hx'⟩
        rw [llen] at hj
        have hsj := List.getElem?_eq_getElem hj
        generalize pl.2[j]'hj = s0 at hsj
        rw [List.getElem?_map, List.getElem?_map, hsj] at hx'
        cases hx'
        have ls0 : s0.length ≤ 20 := by
          obtain ⟨p, hp, e⟩ := (hrow.2 s0).1 (List.mem_of_getElem? hsj)
          have h1 := ((lv_itB hx hy hz n0 (by omega) _ (show w0.length - i ≤ w0.length by omega)).1 p hp).2
          have h2 := N.l (u ++ p) (by rw [List.length_append]; omega)
          rw [List.length_append] at h2
          rw [e]
          omega
        refine FK.rd_for (J := Its "012") (H1 := Hd) (fun R r => by simp only [tSeq, tIfS, tOr, tAnd, tB, tTest, tCB, tCons, tVar, tC, tNil, tNot, tNotV, tRet, tRetN, tNext, tBreak, tOrV, tAndV, tOp, tUn, rEq, rNe, tChain, rI0, rI, rU, tAsg, gName, tDrop, tAug, ipI, tIf, tCall, tCallS, tLst, tTup, tBM, tBM0, rAppend, rExtend, rPop, rReverse, tyV, rIxL, rIxT, rIxS, rIsB, rNotB, L2.start, List.map_cons, List.map_nil, List.length_cons, List.length_nil, List.replicate, List.cons_append, List.nil_append, List.append_nil, List.getElem?_cons_zero, List.getElem?_cons_succ, List.set_cons_zero, List.set_cons_succ, Nat.reduceAdd, Nat.reduceSub, Option.some.injEq, exists_eq_left', exists_eq_left, V.int.injEq, V.bl.injEq, V.str.injEq, V.ref.injEq, List.cons.injEq, and_true, true_and, and_assoc, reduceCtorEq, false_and, exists_false, or_false, false_or, exists_and_left, exists_const, scal, Int.reduceLT, Int.reduceLE, Int.reduceSub, Int.reduceAdd, Int.reduceNeg, if_true, if_false]; exact ⟨_, rfl, r⟩) (show Walk (Its "012") 3 _ _ from (show ("012" : Str).cps.size = 3 by decide +kernel) ▸ walk_str (z := "012"))
          (fun q σ H' => ∃ (ys : List W) (v8 v9 : Option V), σ = [some (.ref t), some (.str (wS (u))), some (.str (wS (v))), some (V.int ((w0.length))), some (.ref R), some (V.int i), some (.ref P), some (.str (wS (s0))), v8, v9] ∧ H' P = some (.lst ((ys.map wS).map V.str)) ∧ ys.Nodup ∧ ys.length ≤ 3 * j + q ∧
            (∀ y, y ∈ ys ↔ (∃ s ∈ pl.2.take j, ∃ l : Fin 3, y = nfw a b c (s ++ [l]) ∧ (nfw a b c (y.reverse ++ v)).length = w0.length - (i + 1)) ∨ ∃ l : Fin 3, l.1 < q ∧ y = nfw a b c (s0 ++ [l]) ∧ (nfw a b c (y.reverse ++ v)).length = w0.length - (i + 1)) ∧ RowsAt H' R ar ∧ Sv K cx.Tiles cx.Floor H' o t f n d a b c (k + 2 + 5000 * i + 6 * j + 2 * q) ∧ But2 d n H H')
          ⟨ys, v8, v9, rfl, eP, nd, ly, fun y => by rw [hm y]; simp, rc, Sc, bc⟩ (fun _ _ _ _ _ => trivial) ?_ ?_
        · rintro q x' σ He Hf hq ⟨ys, v8, v9, rfl, eP, nd, ly, hm, re, Se, be⟩ ⟨rfl, ch, hch, rfl⟩
          obtain ⟨l, hl, el⟩ : ∃ l : Fin 3, l.1 = q ∧ (⟨#[ch]⟩ : Str) = wS [l] := by
            match q, hch with
            | 0, hch => cases hch; exact ⟨0, rfl, rfl⟩
            | 1, hch => cases hch; exact ⟨1, rfl, rfl⟩
            | 2, hch => cases hch; exact ⟨2, rfl, rfl⟩
            | _ + 3, _ => omega
          rw [el]
          simp only [tSeq, tIfS, tOr, tAnd, tB, tTest, tCB, tCons, tVar, tC, tNil, tNot, tNotV, tRet, tRetN, tNext, tBreak, tOrV, tAndV, tOp, tUn, rEq, rNe, tChain, rI0, rI, rU, tAsg, gName, tDrop, tAug, ipI, tIf, tCall, tCallS, tLst, tTup, tBM, tBM0, rAppend, rExtend, rPop, rReverse, tyV, rIxL, rIxT, rIxS, rIsB, rNotB, L2.start, List.map_cons, List.map_nil, List.length_cons, List.length_nil, List.replicate, List.cons_append, List.nil_append, List.append_nil, List.getElem?_cons_zero, List.getElem?_cons_succ, List.set_cons_zero, List.set_cons_succ, Nat.reduceAdd, Nat.reduceSub, Option.some.injEq, exists_eq_left', exists_eq_left, V.int.injEq, V.bl.injEq, V.str.injEq, V.ref.injEq, List.cons.injEq, and_true, true_and, and_assoc, reduceCtorEq, false_and, exists_false, or_false, false_or, exists_and_left, exists_const, scal, Int.reduceLT, Int.reduceLE, Int.reduceSub, Int.reduceAdd, Int.reduceNeg, if_true, if_false, tMeth]
          obtain ⟨dx5, e5⟩ := Se.tl.ob
          have ln1 := N.l (s0 ++ [l]) (by rw [List.length_append, List.length_singleton]; omega)
          rw [List.length_append, List.length_singleton] at ln1
          refine ⟨dx5, _, e5, fldsT_no _ _ (by decide +kernel) (by decide +kernel), by rw [wS_len, wS_len]; exact zl _ (by rw [List.length_singleton]; omega), t, f, n, o, d, a, b, c, _, s0 ++ [l], by rw [wS_app], Se.tl, by rw [List.length_append, List.length_singleton]; omega, by omega, fun H6 T6 b6 => ?_⟩
          have S6 := Se.nrm T6 b6
          have r6 := re.but Se b6
          have b60 := be.trans b6
          have eP6 := Se.lst b6 eP
          generalize hnear : nfw a b c (s0 ++ [l]) = near at *
          have lz : ys.length ≤ 3 * 729 + 3 := by omega
          refine ⟨P, _, rfl, .inl (SqL.of eP6), rfl, flat_words ys, _, rfl, ?_⟩
          rw [inV_wS]
          have hold : ∀ l' : Fin 3, l'.1 < q + 1 ↔ l'.1 < q ∨ l' = l := fun l' => by
            constructor
            · intro h
              rcases Nat.lt_or_ge l'.1 q with c | c
              · exact .inl c
              · exact .inr (Fin.ext (by omega))
            · rintro (h | h)
              · omega
              · rw [h]; omega
          have grow : ∀ y, ((∃ s ∈ pl.2.take j, ∃ l : Fin 3, y = nfw a b c (s ++ [l]) ∧ (nfw a b c (y.reverse ++ v)).length = w0.length - (i + 1)) ∨ ∃ l : Fin 3, l.1 < q + 1 ∧ y = nfw a b c (s0 ++ [l]) ∧ (nfw a b c (y.reverse ++ v)).length = w0.length - (i + 1)) ↔ y ∈ ys ∨ (y = near ∧ (nfw a b c (y.reverse ++ v)).length = w0.length - (i + 1)) := fun y => by
            rw [hm y]
            constructor
            · rintro (h | ⟨l', h1, h2, h3⟩)
              · exact .inl (.inl h)
              · rcases (hold l').1 h1 with h1 | h1
                · exact .inl (.inr ⟨l', h1, h2, h3⟩)
                · rw [h1, hnear] at h2
                  exact .inr ⟨h2, h3⟩
            · rintro ((h | ⟨l', h1, h2, h3⟩) | ⟨h2, h3⟩)
              · exact .inl h
              · exact .inr ⟨l', (hold l').2 (.inl h1), h2, h3⟩
              · exact .inr ⟨l, (hold l).2 (.inr rfl), by rw [hnear]; exact h2, h3⟩
          by_cases hin : near ∈ ys
          · rw [decide_eq_true hin]
            refine iteF' (by decide) ⟨ys, eP6, nd, by omega, fun y => ?_, r6, S6.mono (by omega), b60⟩
            rw [grow y]
            exact ⟨.inl, fun h => h.elim id fun h => by rw [h.1]; exact hin⟩
          · rw [decide_eq_false hin]
            refine iteT' (by decide) ⟨t, f, n, o, d, a, b, c, _, near, v, rfl, S6, by omega, by omega, by omega, fun H7 S7 b7 => ⟨rfl, ?_⟩⟩
            have r7 := r6.but S6 b7
            have eP7 := S6.lst b7 eP6
            have b70 := b60.trans b7
            by_cases hd : (nfw a b c (near.reverse ++ v)).length = w0.length - (i + 1)
            · refine iteT' (by rw [hd]; exact decide_eq_true (congrArg V.int (by omega))) ⟨.inl ⟨_, SqL.of eP7⟩, _, eP7, ?_, ys ++ [near], by rw [upd_same, List.map_append, List.map_append]; rfl, ?_, by rw [List.length_append, List.length_singleton]; omega, fun y => ?_, r7.upd (fun b' u' hb e' => by rw [upd_ne hb]; exact e') nPR nPA, (S7.fr (.inl ⟨_, rfl⟩) eP7 nP.1 nP.2 (fun b' u' e' hb => by rw [upd_ne hb]; exact e')).mono (by omega), fun b' u' h1 h2 e' => ?_⟩
              · rw [List.length_map, List.length_map]
                exact Nat.lt_of_le_of_lt lz (by decide)
              · refine List.nodup_append.mpr ⟨nd, List.pairwise_singleton _ _, fun p hp q' hq' e => hin ?_⟩
                rw [List.mem_singleton.mp hq'] at e
                rw [← e]
                exact hp
              · rw [grow y, List.mem_append, List.mem_singleton]
                exact ⟨fun h => h.elim .inl fun h => .inr ⟨h, by rw [h]; exact hd⟩, fun h => h.elim .inl fun h => .inr h.1⟩
              · rw [upd_ne (fun z => by rw [z, hPH] at e'; cases e')]
                exact b70 _ _ h1 h2 e'
            · refine iteF' (by intro z; have z := V.int.inj (of_decide_eq_true z); exact hd (by omega)) ⟨ys, eP7, nd, by omega, fun y => ?_, r7, S7.mono (by omega), b70⟩
              rw [grow y]
              exact ⟨.inl, fun h => h.elim id fun h => absurd (by rw [← h.1]; exact h.2) hd⟩
        · rintro σ He ⟨ys, v8, v9, rfl, eP, nd, ly, hm, re, Se, be⟩
          refine ⟨ys, _, _, _, rfl, eP, nd, by omega, fun y => ?_, re, Se.mono (by omega), be⟩
          rw [hm y, List.take_add_one, hsj]
          simp only [Option.toList_some, List.mem_append, List.mem_singleton]
          constructor
          · rintro (⟨s, h1, h2⟩ | ⟨l, _, h2⟩)
            · exact ⟨s, .inl h1, h2⟩
            · exact ⟨s0, .inr rfl, l, h2⟩
          · rintro ⟨s, h1 | rfl, l, h2⟩
            · exact .inl ⟨s, h1, l, h2⟩
            · exact .inr ⟨l, l.2, h2⟩
      · rintro σ Hc ⟨ys, v7, v8, v9, rfl, eP, nd, ly, hm, rc, Sc, bc⟩
        rw [llen] at ly hm Sc
        rw [List.take_length] at hm
        simp only [tSeq, tIfS, tOr, tAnd, tB, tTest, tCB, tCons, tVar, tC, tNil, tNot, tNotV, tRet, tRetN, tNext, tBreak, tOrV, tAndV, tOp, tUn, rEq, rNe, tChain, rI0, rI, rU, tAsg, gName, tDrop, tAug, ipI, tIf, tCall, tCallS, tLst, tTup, tBM, tBM0, rAppend, rExtend, rPop, rReverse, tyV, rIxL, rIxT, rIxS, rIsB, rNotB, L2.start, List.map_cons, List.map_nil, List.length_cons, List.length_nil, List.replicate, List.cons_append, List.nil_append, List.append_nil, List.getElem?_cons_zero, List.getElem?_cons_succ, List.set_cons_zero, List.set_cons_succ, Nat.reduceAdd, Nat.reduceSub, Option.some.injEq, exists_eq_left', exists_eq_left, V.int.injEq, V.bl.injEq, V.str.injEq, V.ref.injEq, List.cons.injEq, and_true, true_and, and_assoc, reduceCtorEq, false_and, exists_false, or_false, false_or, exists_and_left, exists_const, scal, Int.reduceLT, Int.reduceLE, Int.reduceSub, Int.reduceAdd, Int.reduceNeg, if_true, if_false]
        refine ⟨.inl ⟨_, SqL.of rc.r⟩, _, rc.r, by rw [List.length_map, hla]; exact Nat.lt_of_le_of_lt (show i + 1 ≤ 14 by omega) (by decide), ar ++ [(P, ys)], by rw [List.length_append, hla, List.length_singleton], fun j p hj => ?_, ⟨by rw [upd_same, List.map_append]; rfl, fun p hp => ?_⟩, (Sc.fr (.inl ⟨_, rfl⟩) rc.r (Sc.nel rc.r).1 (Sc.nel rc.r).2 (fun b' u' e' hb => by rw [upd_ne hb]; exact e')).mono (by omega), fun b' u' h1 h2 e' => ?_⟩
        · rcases Nat.lt_or_ge j ar.length with cc | cc
          · rw [List.getElem?_append_left cc] at hj
            exact hrw j p hj
          · rw [List.getElem?_append_right cc] at hj
            have ej : j = ar.length := by
              have := (List.getElem?_eq_some_iff.mp hj).1
              simp at this
              omega
            subst ej
            rw [Nat.sub_self] at hj
            cases hj
            rw [hla]
            refine rstep (n := w0.length - (i + 1)) (r := pl.2) ?_ (by omega) nd hm
            rw [show w0.length - (i + 1) + 1 = w0.length - i by omega]
            exact hrow
        · rcases List.mem_append.mp hp with hp | hp
          · have e9 := rc.e p hp
            rw [upd_ne (fun z => ?_)]
            · exact e9
            · rw [z, rc.r] at e9
              cases ar with
              | nil => cases hp
              | cons x xs =>
                have e9 := HO.lst.inj (Option.some.inj e9)
                rcases p with ⟨p1, p2⟩
                cases p2 <;> cases e9
          · rw [List.mem_singleton.mp hp]
            rw [upd_ne nPR.symm]
            exact eP
        · rw [upd_ne (fun z => by rw [z, hRH] at e'; cases e')]
          exact bc _ _ h1 h2 e'
    · rintro σ Ha ⟨ar, v5, v6, v7, v8, v9, rfl, hla, hrw, ra, Sa, ba⟩
      simp only [tSeq, tIfS, tOr, tAnd, tB, tTest, tCB, tCons, tVar, tC, tNil, tNot, tNotV, tRet, tRetN, tNext, tBreak, tOrV, tAndV, tOp, tUn, rEq, rNe, tChain, rI0, rI, rU, tAsg, gName, tDrop, tAug, ipI, tIf, tCall, tCallS, tLst, tTup, tBM, tBM0, rAppend, rExtend, rPop, rReverse, tyV, rIxL, rIxT, rIxS, rIsB, rNotB, L2.start, List.map_cons, List.map_nil, List.length_cons, List.length_nil, List.replicate, List.cons_append, List.nil_append, List.append_nil, List.getElem?_cons_zero, List.getElem?_cons_succ, List.set_cons_zero, List.set_cons_succ, Nat.reduceAdd, Nat.reduceSub, Option.some.injEq, exists_eq_left', exists_eq_left, V.int.injEq, V.bl.injEq, V.str.injEq, V.ref.injEq, List.cons.injEq, and_true, true_and, and_assoc, reduceCtorEq, false_and, exists_false, or_false, false_or, exists_and_left, exists_const, scal, Int.reduceLT, Int.reduceLE, Int.reduceSub, Int.reduceAdd, Int.reduceNeg, if_true, if_false]
      exact q ar R Ha hla hrw ra (Sa.mono (by omega)) ba

end
end K19

namespace K19
open PySem PySem.Spec PyProof.Rows L2 Cox
section
variable {P : Program} {w : World} {K : PySem.W.Frag} {mg : Str → Option Value} {base : Heap} {cx : Xs}
/-- a comprehension over a list whose body's calls leave what stands -/
theorem rd_lcM {α : Type} {wi : TI} {i : Nat} {te : TE} {vs : List Nat} {σ : L2.St} {H H1 : Hp} {J : It} {G : Hp → Prop} {Q : VK} (us : List α) (g f : α → V) (hw : ∀ R : It → Hp → Prop, R J H1 → wi σ H R) (w : Walk J (us.map g).length G (YAt (us.map g))) (hG : ∀ H', Same H1 H' → G H') (hl : us.length < sizeLine)
    (hv : ∀ x, wipe ((wipe σ vs).set i (some x)) vs = wipe σ vs)
    (hs : ∀ u H2 (R : VK), u ∈ us → Same H1 H2 → (∀ H3, Same H2 H3 → R (f u) H3) → te ((wipe σ vs).set i (some (g u))) H2 R)
    (hd : ∀ D H2, H1 D = none → Same H1 H2 → H2 D = some (.lst (us.map f)) → Q (.ref D) H2) : tLc wi (gName i) tYes te vs σ H Q := by
  have ln : (us.map g).length = us.length := List.length_map _
  refine FK.rd_lc hw w (fun j acc H' => acc = (us.take j).map f ∧ Same H1 H') (fun D hD => ⟨rfl, FK.same_new hD⟩) ?_ (fun j acc H' _ z => hG H' z.2) (by rw [ln]; exact hl) hv ?_ ?_
  · rintro D j acc y H' hD hD2 ⟨e, s1⟩
    exact ⟨e, FK.same_at hD s1⟩
  · rintro D j x acc H2 H3 R hD hj la ⟨rfl, s1⟩ hD2 ⟨rfl, hx⟩ go
    rw [ln] at hj
    have hu := List.getElem?_eq_getElem hj
    rw [List.getElem?_map, hu] at hx
    cases hx
    refine hs _ _ _ (List.getElem_mem hj) s1 fun H4 s4 => go _ _ (s4 _ _ hD2) ⟨?_, s1.trans s4⟩
    rw [List.take_add_one, hu, List.map_append]
    rfl
  · rintro D acc H2 hD la ⟨rfl, s1⟩ hD2
    rw [ln, List.take_length] at hD2
    exact hd D H2 hD s1 hD2

theorem walk_keys' {dd : Addr} {ob : Obj} {kvs : List (Key × V)} : Walk (Itk dd ob kvs) (kvs.map fun kv => kV kv.1).length (fun H => H dd = some (.frz ob (.dK kvs))) (YAt (kvs.map fun kv => kV kv.1)) := by
  have h := walk_keys (d := dd) (o := ob) (kvs := kvs)
  rw [List.length_map]
  refine ⟨h.1, h.2, fun i H x H' hi q y => ?_⟩
  obtain ⟨e, k, v, e1, e2⟩ := h.3 i H x H' hi q y
  exact ⟨e, by rw [List.getElem?_map, e1, e2]; rfl⟩

theorem row_top {x y z : Nat} (hx : okOrd x) (hy : okOrd y) (hz : okOrd z) {u w0 : W} {r : List W} (n0 : Nw x y z w0) (l0 : w0.length ≤ 14) (h : Row x y z u w0 w0.length r) : r = [nfw x y z u] :=
  List.perm_singleton.mp (perm_ext' h.1 (List.pairwise_singleton _ _) fun t => (h.2 t).trans ((row_start hx hy hz n0 l0).2 t).symm)
theorem row_bot {x y z : Nat} (hx : okOrd x) (hy : okOrd y) (hz : okOrd z) {u w0 : W} {r : List W} (n0 : Nw x y z w0) (l0 : w0.length ≤ 14) (hu : u.length ≤ 60) (h : Row x y z u w0 0 r) : r = [nfw x y z (u ++ w0)] :=
  List.perm_singleton.mp (row_perm hx hy hz h n0 l0 hu (Nat.zero_le _))
theorem cut_one1 (x0 : V) (xs : List V) : cutV (x0 :: xs) (some 1) none = xs := by
  unfold cutV
  rw [show HT.sIx (x0 :: xs).length 0 (some 1) = 1 from sIx_nat _ _ 1 (by simp)]
  show (xs.take _) = xs
  refine List.take_of_length_le ?_
  show xs.length ≤ (x0 :: xs).length - 1
  simp
theorem totM_succ {x y z : Nat} {r : List W} {M : W → Nat} {t : W} {q : Nat} {l : Fin 3} (h : ([0, 1, 2] : W)[q]? = some l) : totM x y z r M t (q + 1) = totM x y z r M t q + getN (r.map fun t => (t, M t)) (nfw x y z (t ++ [l])) := by
  unfold totM
  rw [List.take_add_one, h, List.map_append, List.sum_append]
  simp
theorem putN_new {d : List (W × Nat)} {k : W} {n : Nat} (h : k ∉ d.map Prod.fst) : putN d k n = d ++ [(k, n)] := by
  unfold putN
  rw [if_neg h]
def spNums (K : PySem.W.Frag) (CT CF : Addr) : Sp := fun vs H Q _ => ∃ (t f n o d R : Addr) (a b c k : Nat) (u w0 : W) (ar : List (Addr × List W)), vs = [.ref t, .ref R] ∧ Sv K CT CF H o t f n d a b c k ∧ u.length ≤ 6 ∧ k ≤ 200000 ∧ Nw a b c w0 ∧ w0.length ≤ 12 ∧ RowsAt H R ar ∧ ar.length = w0.length + 1 ∧ (∀ j p, ar[j]? = some p → Row a b c u w0 (w0.length - j) p.2) ∧
  ∀ H', Sv K CT CF H' o t f n d a b c (k + 100000) → But2 d n H H' → Q (.int (RR a b c w0 : Nat)) H'
theorem ok_law_numbers (T : Txt K mg cx) : FK.Has P w K mg base CX0 9 "_law_numbers" ["floor", "rows"] (spNums K cx.Tiles cx.Floor) := by
  have H_Tiles_normal := ok_Tiles_normal (P := P) (w := w) (mg := mg) (base := base) T
  refine T.d_law_numbers.ok sc_law_numbers (fun vs H Q E h => ?_) (fun f' cdv A outer s H vs Q E hr h => ?_)
  · obtain ⟨t, f, n, o, d, R, a, b, c, k, u, w0, ar, rfl, _⟩ := h
    rfl
  · obtain ⟨t, f, n, o, d, R, a, b, c, k, u, w0, ar, rfl, S, hu, hk, n0, l0, ra, hla, hrw, q⟩ := h
    refine ⟨_, (pss_cons (ps_set (i := 2) sc_law_numbers.nd rfl (Or.inr rfl) (by exact (pe_disp (pps_cons (pe_ix (r := rIxL K) ix_list (pe_ix (r := rIxL K) ix_list (pv 1) pe_int (fun _ _ => rfl)) pe_int (fun _ _ => rfl)) pe_int pps_nil) (by rfl) (by rfl) (fun z => by cases z) (by decide))))
  (pss_cons (ps_for PassesOwn.never rfl (pi_list (pe_slice sl_list (pv 1) (po_some pe_int) po_none)) (pg_name (i := 3) sc_law_numbers.nd rfl (Or.inl rfl))
  (pss_cons (ps_set (i := 4) sc_law_numbers.nd rfl (Or.inl rfl) pe_dnewK)
  (pss_cons (ps_for PassesOwn.never rfl (pi_list (pv 3)) (pg_name (i := 5) sc_law_numbers.nd rfl (Or.inl rfl))
  (pss_cons (ps_set (i := 6) sc_law_numbers.nd rfl (Or.inl rfl) (by exact pe_int))
  (pss_cons (ps_for PassesOwn.never rfl (pi_str pe_str) (pg_name (i := 7) sc_law_numbers.nd rfl (Or.inl rfl))
  (pss_one (ps_set (i := 6) sc_law_numbers.nd rfl (Or.inl rfl) (by exact (pe_op op_add (pv 6) (pe_dget2 (hu_of hr) (pv 2) (FK.pe_m (E := E0) (pv 0) T.cl_Tiles H_Tiles_normal (hr.mono (by decide)) FK.pass1 (pa_cons (pe_op op_add_str (pv 5) (pv 7)) pa_nil)) pe_int ⟨rfl, rfl, rfl, rfl⟩))))))
  (pss_one (ps_dput (hu_of hr) (pv 4) (pv 5) (pv 6) rfl)))))
  (pss_one (ps_set (i := 2) sc_law_numbers.nd rfl (Or.inr rfl) (by exact (pv 4)))))))
  (pss_one (ps_ret (pe_callB (cr_sum rfl) (by rfl) T.n_sum (by decide +kernel) (pa_cons (pe_lock (pe_lc (own := [("tile", 5)]) (g := gName 5) (tt := tYes) rfl sc_law_numbers.nd (pi_keys (pv 2)) (blkOk_by (own := [("tile", 5)]) (N := ["floor", "rows", "numbers", "row", "later", "tile", "total", "letter"]) (sc := defScope s_law_numbers) (by decide +kernel)) (fun _ _ _ _ _ => (pg_name (i := 5) sc_law_numbers.nd rfl (Or.inl rfl))) (fun _ _ _ _ _ => pts_nil) (fun _ _ _ _ _ => (pe_dget (hu_of hr) (pv 2) (pv 5) (fun _ _ => rfl))))) pa_nil)))))), ?_⟩
    simp only [tSeq, tIfS, tOr, tAnd, tB, tTest, tCB, tCons, tVar, tC, tNil, tNot, tNotV, tRet, tRetN, tNext, tBreak, tOrV, tAndV, tOp, tUn, rEq, rNe, tChain, rI0, rI, rU, tAsg, gName, tDrop, tAug, ipI, tIf, tCall, tCallS, tLst, tTup, tBM, tBM0, rAppend, rExtend, rPop, rReverse, tyV, rIxL, rIxT, rIxS, rIsB, rNotB, L2.start, List.map_cons, List.map_nil, List.length_cons, List.length_nil, List.replicate, List.cons_append, List.nil_append, List.append_nil, List.getElem?_cons_zero, List.getElem?_cons_succ, List.set_cons_zero, List.set_cons_succ, Nat.reduceAdd, Nat.reduceSub, Option.some.injEq, exists_eq_left', exists_eq_left, V.int.injEq, V.bl.injEq, V.str.injEq, V.ref.injEq, List.cons.injEq, and_true, true_and, and_assoc, reduceCtorEq, false_and, exists_false, or_false, false_or, exists_and_left, exists_const, scal, Int.reduceLT, Int.reduceLE, Int.reduceSub, Int.reduceAdd, Int.reduceNeg, if_true, if_false, tMeth, tDisp]
    refine fun D0 hD0 => ?_
    simp only [tSeq, tIfS, tOr, tAnd, tB, tTest, tCB, tCons, tVar, tC, tNil, tNot, tNotV, tRet, tRetN, tNext, tBreak, tOrV, tAndV, tOp, tUn, rEq, rNe, tChain, rI0, rI, rU, tAsg, gName, tDrop, tAug, ipI, tIf, tCall, tCallS, tLst, tTup, tBM, tBM0, rAppend, rExtend, rPop, rReverse, tyV, rIxL, rIxT, rIxS, rIsB, rNotB, L2.start, List.map_cons, List.map_nil, List.length_cons, List.length_nil, List.replicate, List.cons_append, List.nil_append, List.append_nil, List.getElem?_cons_zero, List.getElem?_cons_succ, List.set_cons_zero, List.set_cons_succ, Nat.reduceAdd, Nat.reduceSub, Option.some.injEq, exists_eq_left', exists_eq_left, V.int.injEq, V.bl.injEq, V.str.injEq, V.ref.injEq, List.cons.injEq, and_true, true_and, and_assoc, reduceCtorEq, false_and, exists_false, or_false, false_or, exists_and_left, exists_const, scal, Int.reduceLT, Int.reduceLE, Int.reduceSub, Int.reduceAdd, Int.reduceNeg, if_true, if_false, tPairs]
    have hx := S.g.ha
    have hy := S.g.hb
    have hz := S.g.hc
    obtain ⟨N, R0⟩ := nfm hx hy hz
    obtain ⟨a0, ar', rfl⟩ : ∃ a0 ar', ar = a0 :: ar' := by
      cases ar with
      | nil => simp at hla
      | cons x xs => exact ⟨x, xs, rfl⟩
    have ra1 := ra.same (FK.same_new (o := HO.dK []) hD0)
    have h0 := hrw 0 a0 rfl
    rw [Nat.sub_zero] at h0
    have e0 := row_top hx hy hz n0 (by omega) h0
    have ea0 := ra1.e a0 List.mem_cons_self
    rw [e0] at ea0
    refine ⟨_, SqL.of ra1.r, _, atI_nat (j := 0) rfl, a0.1, rfl, _, SqL.of ea0, _, atI_nat (j := 0) rfl, upd_same, [(keyW (nfw a b c u), V.int 1)], rfl, by show 1 ≤ 15; decide, ?_⟩
    obtain ⟨nDR, nDA⟩ := ra.new hD0
    have nD0 := S.nes hD0
    have eD5 : upd (upd H D0 (.dK [])) D0 (.dK (mergeK [] [(keyW (nfw a b c u), V.int 1)])) D0 = some (.dK (encN ([nfw a b c u].map fun t => (t, (fun _ => 1) t)))) := upd_same
    have S5 : Sv K cx.Tiles cx.Floor (upd (upd H D0 (.dK [])) D0 (.dK (mergeK [] [(keyW (nfw a b c u), V.int 1)]))) o t f n d a b c k := (S.same (FK.same_new (o := HO.dK []) hD0)).fr (.inr ⟨_, rfl⟩) upd_same nD0.1 nD0.2 (fun b' u' e' hb => by rw [upd_ne hb]; exact e')
    have r5 : RowsAt (upd (upd H D0 (.dK [])) D0 (.dK (mergeK [] [(keyW (nfw a b c u), V.int 1)]))) R (a0 :: ar') := ra1.upd (fun b' u' hb e' => by rw [upd_ne hb]; exact e') nDR nDA
    have b5 : But2 d n H (upd (upd H D0 (.dK [])) D0 (.dK (mergeK [] [(keyW (nfw a b c u), V.int 1)]))) := fun x v h1 h2 e => by
      have h3 : x ≠ D0 := fun z => by rw [z, hD0] at e; cases e
      rw [upd_ne h3]
      exact FK.same_new hD0 _ _ e
    generalize upd (upd H D0 (.dK [])) D0 (.dK (mergeK [] [(keyW (nfw a b c u), V.int 1)])) = H5 at *
    refine FK.for_lst ?_
    simp only [tSeq, tIfS, tOr, tAnd, tB, tTest, tCB, tCons, tVar, tC, tNil, tNot, tNotV, tRet, tRetN, tNext, tBreak, tOrV, tAndV, tOp, tUn, rEq, rNe, tChain, rI0, rI, rU, tAsg, gName, tDrop, tAug, ipI, tIf, tCall, tCallS, tLst, tTup, tBM, tBM0, rAppend, rExtend, rPop, rReverse, tyV, rIxL, rIxT, rIxS, rIsB, rNotB, L2.start, List.map_cons, List.map_nil, List.length_cons, List.length_nil, List.replicate, List.cons_append, List.nil_append, List.append_nil, List.getElem?_cons_zero, List.getElem?_cons_succ, List.set_cons_zero, List.set_cons_succ, Nat.reduceAdd, Nat.reduceSub, Option.some.injEq, exists_eq_left', exists_eq_left, V.int.injEq, V.bl.injEq, V.str.injEq, V.ref.injEq, List.cons.injEq, and_true, true_and, and_assoc, reduceCtorEq, false_and, exists_false, or_false, false_or, exists_and_left, exists_const, scal, Int.reduceLT, Int.reduceLE, Int.reduceSub, Int.reduceAdd, Int.reduceNeg, if_true, if_false, tSl, tPart, tNoPart, rSlL]
    refine ⟨_, SqL.of r5.r, fun Lz hLz => ?_⟩
    rw [List.map_cons, cut_one1]
    have r6 := r5.same (FK.same_new (o := HO.lst (ar'.map fun p : Addr × List W => V.ref p.1)) hLz)
    have S6 := S5.same (FK.same_new (o := HO.lst (ar'.map fun p : Addr × List W => V.ref p.1)) hLz)
    have b6 : But2 d n H (upd H5 Lz (.lst (ar'.map fun p : Addr × List W => V.ref p.1))) := fun x v h1 h2 e => FK.same_new hLz _ _ (b5 x v h1 h2 e)
    have eD6 : upd H5 Lz (.lst (ar'.map fun p : Addr × List W => V.ref p.1)) D0 = _ := FK.same_new hLz _ _ eD5
    have la' : ar'.length = w0.length := by simpa using hla
    have lmap : (ar'.map fun p : Addr × List W => V.ref p.1).length = ar'.length := List.length_map _
    refine ⟨⟨_, SqL.of upd_same⟩, ?_⟩
    refine FK.rd_for (J := Itl K Lz) (H1 := upd H5 Lz (.lst (ar'.map fun p : Addr × List W => V.ref p.1))) (fun R r => r) (walk_list (xs := ar'.map fun p : Addr × List W => V.ref p.1))
      (fun i σ H' => ∃ (D : Addr) (M : W → Nat) (p0 : Addr × List W) (v3 v4 v5 v6 v7 : Option V), σ = [some (.ref t), some (.ref R), some (.ref D), v3, v4, v5, v6, v7] ∧ (a0 :: ar')[i]? = some p0 ∧ H' D = some (.dK (encN (p0.2.map fun t => (t, M t)))) ∧ D ≠ n ∧ D ≠ d ∧ (∀ p ∈ itB a b c [w0] (w0.length - i), M (nfw a b c (u ++ p)) = RR a b c p) ∧ RowsAt H' R (a0 :: ar') ∧ H' Lz = some (.lst (ar'.map fun p : Addr × List W => V.ref p.1)) ∧ Sv K cx.Tiles cx.Floor H' o t f n d a b c (k + 5000 * i) ∧ But2 d n H H')
      ⟨D0, fun _ => 1, a0, none, none, none, none, none, rfl, rfl, by rw [e0]; exact eD6, nD0.1, nD0.2, fun p hp => ?_, r6, upd_same, S6, b6⟩ (fun i σ H' _ ⟨_, _, _, _, _, _, _, _, _, _, _, _, _, _, _, h, _⟩ => SqL.of h) ?_ ?_
    · have h1 := ((lv_itB hx hy hz n0 (by omega) _ (Nat.sub_le _ 0)).1 p hp).2
      have h2 : p.length = 0 := by omega
      rw [List.eq_nil_of_length_eq_zero h2]
      rfl
    · rintro i x' σ Ha Hb hi ⟨D, M, p0, v3, v4, v5, v6, v7, rfl, hp0, eD, nDn, nDd, hM, rb, eL, Sb, bb⟩ ⟨rfl, hx'⟩
      rw [lmap] at hi
      have hp1 : (a0 :: ar')[i + 1]? = some ar'[i] := List.getElem?_eq_getElem hi
      rw [List.getElem?_map, List.getElem?_eq_getElem hi] at hx'
      cases hx'
      generalize ar'[i] = p1 at hp1
      have hrow0 := hrw i _ hp0
      have hrow1 := hrw (i + 1) _ hp1
      have hm1 := List.mem_of_getElem? hp1
      have lr : p1.2.length ≤ 729 := by
        have h1 := (row_perm hx hy hz hrow1 n0 (by omega) (by omega) (by omega)).length_eq
        rw [List.length_map] at h1
        have h2 := few_itB hx hy hz n0 l0 (n := w0.length - (i + 1)) (by omega)
        have h3 := Nat.pow_le_pow_right (n := 3) (by decide) (show min (w0.length - (i + 1)) (12 - (w0.length - (i + 1))) ≤ 6 by omega)
        omega
      simp only [tSeq, tIfS, tOr, tAnd, tB, tTest, tCB, tCons, tVar, tC, tNil, tNot, tNotV, tRet, tRetN, tNext, tBreak, tOrV, tAndV, tOp, tUn, rEq, rNe, tChain, rI0, rI, rU, tAsg, gName, tDrop, tAug, ipI, tIf, tCall, tCallS, tLst, tTup, tBM, tBM0, rAppend, rExtend, rPop, rReverse, tyV, rIxL, rIxT, rIxS, rIsB, rNotB, L2.start, List.map_cons, List.map_nil, List.length_cons, List.length_nil, List.replicate, List.cons_append, List.nil_append, List.append_nil, List.getElem?_cons_zero, List.getElem?_cons_succ, List.set_cons_zero, List.set_cons_succ, Nat.reduceAdd, Nat.reduceSub, Option.some.injEq, exists_eq_left', exists_eq_left, V.int.injEq, V.bl.injEq, V.str.injEq, V.ref.injEq, List.cons.injEq, and_true, true_and, and_assoc, reduceCtorEq, false_and, exists_false, or_false, false_or, exists_and_left, exists_const, scal, Int.reduceLT, Int.reduceLE, Int.reduceSub, Int.reduceAdd, Int.reduceNeg, if_true, if_false]
      refine fun P hP => ?_
      obtain ⟨nPR, nPA⟩ := rb.new hP
      have nP := Sb.nes hP
      have nDP : D ≠ P := fun z => by rw [z, hP] at eD; cases eD
      have nLP : Lz ≠ P := fun z => by rw [z, hP] at eL; cases eL
      have hPH : H P = none := by
        cases e : H P with
        | none => rfl
        | some v => rw [bb P v nP.2 nP.1 e] at hP; cases hP
      have rc := rb.same (FK.same_new (o := HO.dK []) hP)
      refine FK.for_lst ?_
      simp only [tSeq, tIfS, tOr, tAnd, tB, tTest, tCB, tCons, tVar, tC, tNil, tNot, tNotV, tRet, tRetN, tNext, tBreak, tOrV, tAndV, tOp, tUn, rEq, rNe, tChain, rI0, rI, rU, tAsg, gName, tDrop, tAug, ipI, tIf, tCall, tCallS, tLst, tTup, tBM, tBM0, rAppend, rExtend, rPop, rReverse, tyV, rIxL, rIxT, rIxS, rIsB, rNotB, L2.start, List.map_cons, List.map_nil, List.length_cons, List.length_nil, List.replicate, List.cons_append, List.nil_append, List.append_nil, List.getElem?_cons_zero, List.getElem?_cons_succ, List.set_cons_zero, List.set_cons_succ, Nat.reduceAdd, Nat.reduceSub, Option.some.injEq, exists_eq_left', exists_eq_left, V.int.injEq, V.bl.injEq, V.str.injEq, V.ref.injEq, List.cons.injEq, and_true, true_and, and_assoc, reduceCtorEq, false_and, exists_false, or_false, false_or, exists_and_left, exists_const, scal, Int.reduceLT, Int.reduceLE, Int.reduceSub, Int.reduceAdd, Int.reduceNeg, if_true, if_false]
      refine ⟨⟨_, SqL.of (rc.e _ hm1)⟩, ?_⟩
      have llen : ((p1.2.map wS).map V.str).length = p1.2.length := by rw [List.length_map, List.length_map]
      refine FK.rd_for (J := Itl K p1.1) (H1 := upd Hb P (.dK [])) (fun R r => r) (walk_list (xs := (p1.2.map wS).map V.str))
        (fun j σ H' => ∃ (v5 v6 v7 : Option V), σ = [some (.ref t), some (.ref R), some (.ref D), some (.ref ((p1.1))), some (.ref P), v5, v6, v7] ∧ H' P = some (.dK (encN ((p1.2.take j).map fun t => (t, totM a b c p0.2 M t 3)))) ∧ H' D = some (.dK (encN (p0.2.map fun t => (t, M t)))) ∧ RowsAt H' R (a0 :: ar') ∧ H' Lz = some (.lst (ar'.map fun p : Addr × List W => V.ref p.1)) ∧ Sv K cx.Tiles cx.Floor H' o t f n d a b c (k + 5000 * i + 3 * j) ∧ But2 d n H H')
        ⟨v5, v6, v7, rfl, upd_same, FK.same_new hP _ _ eD, rc, FK.same_new hP _ _ eL, Sb.same (FK.same_new hP), fun x v h1 h2 e => FK.same_new hP _ _ (bb x v h1 h2 e)⟩ (fun j σ H' _ ⟨_, _, _, _, _, _, r', _⟩ => SqL.of (r'.e _ hm1)) ?_ ?_
      · rintro j x' σ Hc Hd hj ⟨v5, v6, v7, rfl, eP, eDd, rd, eLd, Sd, bd⟩ ⟨rfl, hx'⟩
        rw [llen] at hj
        have hsj := List.getElem?_eq_getElem hj
        have hnd : p1.2[j] ∉ p1.2.take j := fun h => by
          obtain ⟨q, hq, e⟩ := List.mem_iff_getElem.mp h
          rw [List.getElem_take] at e
          rw [List.length_take] at hq
          exact absurd e (List.pairwise_iff_getElem.mp hrow1.1 q j (by omega) hj (by omega))
        generalize p1.2[j]'hj = s0 at hsj hnd
        rw [List.getElem?_map, List.getElem?_map, hsj] at hx'
        cases hx'
        have ls0 : s0.length ≤ 20 := by
          obtain ⟨p, hp, e⟩ := (hrow1.2 s0).1 (List.mem_of_getElem? hsj)
          have h1 := ((lv_itB hx hy hz n0 (by omega) _ (show w0.length - (i + 1) ≤ w0.length by omega)).1 p hp).2
          have h2 := N.l (u ++ p) (by rw [List.length_append]; omega)
          rw [List.length_append] at h2
          rw [e]
          omega
        simp only [tSeq, tIfS, tOr, tAnd, tB, tTest, tCB, tCons, tVar, tC, tNil, tNot, tNotV, tRet, tRetN, tNext, tBreak, tOrV, tAndV, tOp, tUn, rEq, rNe, tChain, rI0, rI, rU, tAsg, gName, tDrop, tAug, ipI, tIf, tCall, tCallS, tLst, tTup, tBM, tBM0, rAppend, rExtend, rPop, rReverse, tyV, rIxL, rIxT, rIxS, rIsB, rNotB, L2.start, List.map_cons, List.map_nil, List.length_cons, List.length_nil, List.replicate, List.cons_append, List.nil_append, List.append_nil, List.getElem?_cons_zero, List.getElem?_cons_succ, List.set_cons_zero, List.set_cons_succ, Nat.reduceAdd, Nat.reduceSub, Option.some.injEq, exists_eq_left', exists_eq_left, V.int.injEq, V.bl.injEq, V.str.injEq, V.ref.injEq, List.cons.injEq, and_true, true_and, and_assoc, reduceCtorEq, false_and, exists_false, or_false, false_or, exists_and_left, exists_const, scal, Int.reduceLT, Int.reduceLE, Int.reduceSub, Int.reduceAdd, Int.reduceNeg, if_true, if_false]
        refine FK.rd_for (J := Its "012") (H1 := Hd) (fun R r => by first | exact r | exact ⟨_, rfl, r⟩) (show Walk (Its "012") 3 _ _ from (show ("012" : Str).cps.size = 3 by decide +kernel) ▸ walk_str (z := "012"))
          (fun q σ H' => ∃ v7 : Option V, σ = [some (.ref t), some (.ref R), some (.ref D), some (.ref ((p1.1))), some (.ref P), some (.str (wS (s0))), some (V.int ((totM a b c p0.2 M s0 q))), v7] ∧ H' P = some (.dK (encN ((p1.2.take j).map fun t => (t, totM a b c p0.2 M t 3)))) ∧ H' D = some (.dK (encN (p0.2.map fun t => (t, M t)))) ∧ RowsAt H' R (a0 :: ar') ∧ H' Lz = some (.lst (ar'.map fun p : Addr × List W => V.ref p.1)) ∧ Sv K cx.Tiles cx.Floor H' o t f n d a b c (k + 5000 * i + 3 * j + q) ∧ But2 d n H H')
          ⟨v7, rfl, eP, eDd, rd, eLd, Sd, bd⟩ (fun _ _ _ _ _ => trivial) ?_ ?_
        · rintro q x' σ He Hf hq ⟨v7, rfl, eP, eDf, rf, eLf, Sf, bf⟩ ⟨rfl, ch, hch, rfl⟩
          obtain ⟨l, hl, el⟩ : ∃ l : Fin 3, ([0, 1, 2] : W)[q]? = some l ∧ (⟨#[ch]⟩ : Str) = wS [l] := by
            match q, hch with
            | 0, hch => cases hch; exact ⟨0, rfl, rfl⟩
            | 1, hch => cases hch; exact ⟨1, rfl, rfl⟩
            | 2, hch => cases hch; exact ⟨2, rfl, rfl⟩
            | _ + 3, _ => omega
          rw [el]
          simp only [tSeq, tIfS, tOr, tAnd, tB, tTest, tCB, tCons, tVar, tC, tNil, tNot, tNotV, tRet, tRetN, tNext, tBreak, tOrV, tAndV, tOp, tUn, rEq, rNe, tChain, rI0, rI, rU, tAsg, gName, tDrop, tAug, ipI, tIf, tCall, tCallS, tLst, tTup, tBM, tBM0, rAppend, rExtend, rPop, rReverse, tyV, rIxL, rIxT, rIxS, rIsB, rNotB, L2.start, List.map_cons, List.map_nil, List.length_cons, List.length_nil, List.replicate, List.cons_append, List.nil_append, List.append_nil, List.getElem?_cons_zero, List.getElem?_cons_succ, List.set_cons_zero, List.set_cons_succ, Nat.reduceAdd, Nat.reduceSub, Option.some.injEq, exists_eq_left', exists_eq_left, V.int.injEq, V.bl.injEq, V.str.injEq, V.ref.injEq, List.cons.injEq, and_true, true_and, and_assoc, reduceCtorEq, false_and, exists_false, or_false, false_or, exists_and_left, exists_const, scal, Int.reduceLT, Int.reduceLE, Int.reduceSub, Int.reduceAdd, Int.reduceNeg, if_true, if_false, tMeth, tDGet2]
          obtain ⟨dx5, e5⟩ := Sf.tl.ob
          have ln1 := N.l (s0 ++ [l]) (by rw [List.length_append, List.length_singleton]; omega)
          rw [List.length_append, List.length_singleton] at ln1
          refine ⟨.inl ⟨_, .inl eDf⟩, dx5, _, e5, fldsT_no _ _ (by decide +kernel) (by decide +kernel), by rw [wS_len, wS_len]; exact zl _ (by rw [List.length_singleton]; omega), t, f, n, o, d, a, b, c, _, s0 ++ [l], by rw [wS_app], Sf.tl, by rw [List.length_append, List.length_singleton]; omega, by omega, fun H6 T6 b6 => ?_⟩
          have eD6 := b6 _ _ nDd nDn eDf
          exact ⟨_, DGet.k (k := keyW (nfw a b c (s0 ++ [l]))) eD6, _, get_encN _ _, by rw [totM_succ hl, Int.natCast_add], b6 _ _ nP.2 nP.1 eP, eD6, rf.but Sf b6, Sf.lst b6 eLf, Sf.nrm T6 b6, bf.trans b6⟩
        · rintro σ He ⟨v7, rfl, eP, eDf, rf, eLf, Sf, bf⟩
          simp only [tSeq, tIfS, tOr, tAnd, tB, tTest, tCB, tCons, tVar, tC, tNil, tNot, tNotV, tRet, tRetN, tNext, tBreak, tOrV, tAndV, tOp, tUn, rEq, rNe, tChain, rI0, rI, rU, tAsg, gName, tDrop, tAug, ipI, tIf, tCall, tCallS, tLst, tTup, tBM, tBM0, rAppend, rExtend, rPop, rReverse, tyV, rIxL, rIxT, rIxS, rIsB, rNotB, L2.start, List.map_cons, List.map_nil, List.length_cons, List.length_nil, List.replicate, List.cons_append, List.nil_append, List.append_nil, List.getElem?_cons_zero, List.getElem?_cons_succ, List.set_cons_zero, List.set_cons_succ, Nat.reduceAdd, Nat.reduceSub, Option.some.injEq, exists_eq_left', exists_eq_left, V.int.injEq, V.bl.injEq, V.str.injEq, V.ref.injEq, List.cons.injEq, and_true, true_and, and_assoc, reduceCtorEq, false_and, exists_false, or_false, false_or, exists_and_left, exists_const, scal, Int.reduceLT, Int.reduceLE, Int.reduceSub, Int.reduceAdd, Int.reduceNeg, if_true, if_false, sDPut]
          have ek : ((p1.2.take j).map fun t => (t, totM a b c p0.2 M t 3)).map Prod.fst = p1.2.take j := by
            rw [List.map_map]
            exact (List.map_congr_left fun _ _ => rfl).trans (List.map_id _)
          refine ⟨_, DPut.k (k := keyW s0) eP ?_, ?_, by rw [upd_ne nDP]; exact eDf, rf.upd (fun b' u' hb e' => by rw [upd_ne hb]; exact e') nPR nPA, by rw [upd_ne nLP]; exact eLf, (Sf.fr (.inr ⟨_, rfl⟩) eP nP.1 nP.2 (fun b' u' e' hb => by rw [upd_ne hb]; exact e')).mono (by omega), fun b' u' h1 h2 e' => ?_⟩
          · unfold encN
            rw [List.length_map, List.length_map, List.length_take]
            exact Nat.lt_of_le_of_lt (show min j p1.2.length ≤ 729 by omega) (by decide)
          · rw [upd_same, put_encN, putN_new (by rw [ek]; exact hnd), List.take_add_one, hsj, List.map_append]
            rfl
          · rw [upd_ne (fun z => by rw [z, hPH] at e'; cases e')]
            exact bf _ _ h1 h2 e'
      · rintro σ Hc ⟨v5, v6, v7, rfl, eP, eDd, rd, eLd, Sd, bd⟩
        rw [llen] at eP Sd
        rw [List.take_length] at eP
        simp only [tSeq, tIfS, tOr, tAnd, tB, tTest, tCB, tCons, tVar, tC, tNil, tNot, tNotV, tRet, tRetN, tNext, tBreak, tOrV, tAndV, tOp, tUn, rEq, rNe, tChain, rI0, rI, rU, tAsg, gName, tDrop, tAug, ipI, tIf, tCall, tCallS, tLst, tTup, tBM, tBM0, rAppend, rExtend, rPop, rReverse, tyV, rIxL, rIxT, rIxS, rIsB, rNotB, L2.start, List.map_cons, List.map_nil, List.length_cons, List.length_nil, List.replicate, List.cons_append, List.nil_append, List.append_nil, List.getElem?_cons_zero, List.getElem?_cons_succ, List.set_cons_zero, List.set_cons_succ, Nat.reduceAdd, Nat.reduceSub, Option.some.injEq, exists_eq_left', exists_eq_left, V.int.injEq, V.bl.injEq, V.str.injEq, V.ref.injEq, List.cons.injEq, and_true, true_and, and_assoc, reduceCtorEq, false_and, exists_false, or_false, false_or, exists_and_left, exists_const, scal, Int.reduceLT, Int.reduceLE, Int.reduceSub, Int.reduceAdd, Int.reduceNeg, if_true, if_false]
        refine ⟨fun t => totM a b c p0.2 M t 3, p1, hp1, eP, nP.1, nP.2, ?_, rd, eLd, Sd.mono (by omega), bd⟩
        refine row_num hx hy hz hu n0 (by omega) (r' := p1.2) (by omega) ?_ ?_
        · rw [show w0.length - (i + 1) + 1 = w0.length - i by omega]
          exact hrow0
        · rw [show w0.length - (i + 1) + 1 = w0.length - i by omega]
          exact hM
    · rintro σ Ha ⟨D, M, p0, v3, v4, v5, v6, v7, rfl, hp0, eD, nDn, nDd, hM, rb, eL, Sb, bb⟩
      rw [lmap, la'] at hp0 hM Sb
      rw [Nat.sub_self] at hM
      have hrow0 := hrw _ _ hp0
      rw [Nat.sub_self] at hrow0
      have eb := row_bot hx hy hz n0 (by omega) (by omega) hrow0
      have hMw := hM w0 (List.mem_singleton.mpr rfl)
      simp only [tSeq, tIfS, tOr, tAnd, tB, tTest, tCB, tCons, tVar, tC, tNil, tNot, tNotV, tRet, tRetN, tNext, tBreak, tOrV, tAndV, tOp, tUn, rEq, rNe, tChain, rI0, rI, rU, tAsg, gName, tDrop, tAug, ipI, tIf, tCall, tCallS, tLst, tTup, tBM, tBM0, rAppend, rExtend, rPop, rReverse, tyV, rIxL, rIxT, rIxS, rIsB, rNotB, L2.start, List.map_cons, List.map_nil, List.length_cons, List.length_nil, List.replicate, List.cons_append, List.nil_append, List.append_nil, List.getElem?_cons_zero, List.getElem?_cons_succ, List.set_cons_zero, List.set_cons_succ, Nat.reduceAdd, Nat.reduceSub, Option.some.injEq, exists_eq_left', exists_eq_left, V.int.injEq, V.bl.injEq, V.str.injEq, V.ref.injEq, List.cons.injEq, and_true, true_and, and_assoc, reduceCtorEq, false_and, exists_false, or_false, false_or, exists_and_left, exists_const, scal, Int.reduceLT, Int.reduceLE, Int.reduceSub, Int.reduceAdd, Int.reduceNeg, if_true, if_false, tLockE]
      refine ⟨D, _, eD, trivial, fun od => ?_⟩
      have eZ : upd Ha D (.frz od (.dK (encN (p0.2.map fun t => (t, M t))))) D = some (.frz od (.dK (encN (p0.2.map fun t => (t, M t))))) := upd_same
      have ekey : (encN (p0.2.map fun t => (t, M t))).map (fun kv => kV kv.1) = p0.2.map fun w1 => V.str (wS w1) := by
        unfold encN
        rw [List.map_map, List.map_map]
        rfl
      have wk := walk_keys' (dd := D) (ob := od) (kvs := encN (p0.2.map fun t => (t, M t)))
      rw [ekey] at wk
      refine rd_lcM (J := Itk D od (encN (p0.2.map fun t => (t, M t)))) (H1 := upd Ha D (.frz od (.dK (encN (p0.2.map fun t => (t, M t)))))) p0.2 (fun w => V.str (wS w)) (fun w => V.int (M w : Int)) (fun R r => ⟨_, rfl, D, od, rfl, .inl ⟨_, upd_same, r⟩⟩) wk (fun H' s' => s' _ _ eZ) (by rw [eb]; show 1 < 16777216; decide) (fun _ => rfl) ?_ ?_
      · intro w1 H2 R' hw s2 go
        simp only [tSeq, tIfS, tOr, tAnd, tB, tTest, tCB, tCons, tVar, tC, tNil, tNot, tNotV, tRet, tRetN, tNext, tBreak, tOrV, tAndV, tOp, tUn, rEq, rNe, tChain, rI0, rI, rU, tAsg, gName, tDrop, tAug, ipI, tIf, tCall, tCallS, tLst, tTup, tBM, tBM0, rAppend, rExtend, rPop, rReverse, tyV, rIxL, rIxT, rIxS, rIsB, rNotB, L2.start, List.map_cons, List.map_nil, List.length_cons, List.length_nil, List.replicate, List.cons_append, List.nil_append, List.append_nil, List.getElem?_cons_zero, List.getElem?_cons_succ, List.set_cons_zero, List.set_cons_succ, Nat.reduceAdd, Nat.reduceSub, Option.some.injEq, exists_eq_left', exists_eq_left, V.int.injEq, V.bl.injEq, V.str.injEq, V.ref.injEq, List.cons.injEq, and_true, true_and, and_assoc, reduceCtorEq, false_and, exists_false, or_false, false_or, exists_and_left, exists_const, scal, Int.reduceLT, Int.reduceLE, Int.reduceSub, Int.reduceAdd, Int.reduceNeg, if_true, if_false, tDGet, wipe]
        refine ⟨_, .inl ⟨_, keyW w1, .inr ⟨od, s2 _ _ eZ⟩, rfl, ?_⟩, go _ (Same.refl _)⟩
        rw [get_at (by rw [List.map_map]; exact List.mem_map.mpr ⟨w1, hw, rfl⟩), getN_row, if_pos hw]
      · intro D2 H2 hD2 s2 e2
        refine ⟨s2 _ _ eZ, D2, p0.2.map fun w => (M w : Int), rfl, SqL.of ?_, ?_⟩
        · rw [upd_ne (fun z => by rw [z, upd_same] at hD2; cases hD2), e2, List.map_map]
          rfl
        · have es : (p0.2.map fun w => (M w : Int)).sum = (RR a b c w0 : Nat) := by
            rw [eb, List.map_cons, List.map_nil, List.sum_cons, List.sum_nil, hMw, Int.add_zero]
          rw [es]
          have sF : Same Ha (upd H2 D (.dK (encN (p0.2.map fun t => (t, M t))))) := fun x' v' e' => by
            by_cases hxD : x' = D
            · subst hxD
              rw [upd_same, ← eD, e']
            · rw [upd_ne hxD]
              exact s2 _ _ (by rw [upd_ne hxD]; exact e')
          exact q _ ((Sb.same sF).mono (by omega)) (fun x' v' h1 h2 e' => sF _ _ (bb _ _ h1 h2 e'))

end
end K19

namespace K19
open PySem PySem.Spec PyProof.Rows L2 Cox
section
variable {P : Program} {w : World} {K : PySem.W.Frag} {mg : Str → Option Value} {base : Heap} {cx : Xs}
def spTold (K : PySem.W.Frag) : Sp := fun vs H Q _ => ∃ (o : Addr) (ns : List Int) (x y : Str), vs = [.ref o, .str x, .str y] ∧ SqT K H o (ns.map V.int) ∧ x.length < sizeLine ∧ y.length < sizeLine ∧
  (okOrders ns = false → ∀ H', Same H H' → Q (.str "orders") H') ∧ (okOrders ns = true → (okWord x 60 && okWord y 60) = false → ∀ H', Same H H' → Q (.str "word") H') ∧
  (okOrders ns = true → okWord x 60 = true → okWord y 60 = true → ∀ (a b c : Nat) (u v : W), ns = [(a : Int), (b : Int), (c : Int)] → x = wS u → y = wS v → ∀ H', Same H H' → Q (.int ((nfw a b c (u.reverse ++ v)).length : Nat)) H')
theorem ok_law_told (T : Txt K mg cx) : FK.Has P w K mg base CX0 10 "_law_told" ["orders", "one", "other"] (spTold K) := by
  have H_distance := ok_distance (P := P) (w := w) (base := base) T
  have H_law_kind := ok_law_kind (P := P) (w := w) (base := base) T
  refine T.d_law_told.ok sc_law_told (fun vs H Q E h => ?_) (fun f cdv A outer s H vs Q E hr h => ?_)
  · obtain ⟨o, ns, x, y, rfl, _⟩ := h
    rfl
  · obtain ⟨o, ns, x, y, rfl, hS, hx, hy, qO, qW, q⟩ := h
    refine ⟨_, (pss_one (ps_try_as (i := 3) rfl rfl sc_law_told.nd rfl rfl ⟨rfl, by decide, .inl T.x_FoldError.g⟩ takes0 (fun W pn xe tk po => (pss_one (ps_ret (FK.pe_hS H_distance (hr.mono (by decide)) (fun σ => passAt tk σ) (pa_cons (pv 0) (pa_cons (pv 1) (pa_cons (pv 2) pa_nil))))))) (fun a oe cls dd pn hz hf => (pss_one (ps_ret (FK.pe_hE hz hf H_law_kind (hr.mono (by decide)) (pa_cons (pv 3) pa_nil))))))), ?_⟩
    simp only [tSeq, tIfS, tOr, tAnd, tB, tTest, tCB, tCons, tVar, tC, tNil, tNot, tNotV, tRet, tRetN, tNext, tBreak, tOrV, tAndV, tOp, tUn, rEq, rNe, tChain, rI0, rI, rU, tAsg, gName, tDrop, tAug, ipI, tIf, tCall, tCallS, tLst, tTup, tBM, tBM0, rAppend, rExtend, rPop, rReverse, tyV, rIxL, rIxT, rIxS, rIsB, rNotB, L2.start, List.map_cons, List.map_nil, List.length_cons, List.length_nil, List.replicate, List.cons_append, List.nil_append, List.append_nil, List.getElem?_cons_zero, List.getElem?_cons_succ, List.set_cons_zero, List.set_cons_succ, Nat.reduceAdd, Nat.reduceSub, Option.some.injEq, exists_eq_left', exists_eq_left, V.int.injEq, V.bl.injEq, V.str.injEq, V.ref.injEq, List.cons.injEq, and_true, true_and, and_assoc, reduceCtorEq, false_and, exists_false, or_false, false_or, exists_and_left, exists_const, scal, Int.reduceLT, Int.reduceLE, Int.reduceSub, Int.reduceAdd, Int.reduceNeg, if_true, if_false]
    refine ⟨o, ns, x, y, rfl, hS, hx, hy, fun e H1 s1 => ?_, fun e e2 H1 s1 => ?_, fun e e1 e2 a b c u v H1 i1 _ _ _ i5 i6 _ _ s1 => ?_⟩
    · refine ⟨true, T.exm_NotOrders, fun _ b hb => ?_, fun z => nomatch z⟩
      simp only [tSeq, tIfS, tOr, tAnd, tB, tTest, tCB, tCons, tVar, tC, tNil, tNot, tNotV, tRet, tRetN, tNext, tBreak, tOrV, tAndV, tOp, tUn, rEq, rNe, tChain, rI0, rI, rU, tAsg, gName, tDrop, tAug, ipI, tIf, tCall, tCallS, tLst, tTup, tBM, tBM0, rAppend, rExtend, rPop, rReverse, tyV, rIxL, rIxT, rIxS, rIsB, rNotB, L2.start, List.map_cons, List.map_nil, List.length_cons, List.length_nil, List.replicate, List.cons_append, List.nil_append, List.append_nil, List.getElem?_cons_zero, List.getElem?_cons_succ, List.set_cons_zero, List.set_cons_succ, Nat.reduceAdd, Nat.reduceSub, Option.some.injEq, exists_eq_left', exists_eq_left, V.int.injEq, V.bl.injEq, V.str.injEq, V.ref.injEq, List.cons.injEq, and_true, true_and, and_assoc, reduceCtorEq, false_and, exists_false, or_false, false_or, exists_and_left, exists_const, scal, Int.reduceLT, Int.reduceLE, Int.reduceSub, Int.reduceAdd, Int.reduceNeg, if_true, if_false]
      exact ⟨rfl, rfl, .inl ⟨rfl, fun H2 s2 => qO e H2 (s1.trans s2)⟩⟩
    · refine ⟨true, T.exm_NotWord, fun _ b hb => ?_, fun z => nomatch z⟩
      simp only [tSeq, tIfS, tOr, tAnd, tB, tTest, tCB, tCons, tVar, tC, tNil, tNot, tNotV, tRet, tRetN, tNext, tBreak, tOrV, tAndV, tOp, tUn, rEq, rNe, tChain, rI0, rI, rU, tAsg, gName, tDrop, tAug, ipI, tIf, tCall, tCallS, tLst, tTup, tBM, tBM0, rAppend, rExtend, rPop, rReverse, tyV, rIxL, rIxT, rIxS, rIsB, rNotB, L2.start, List.map_cons, List.map_nil, List.length_cons, List.length_nil, List.replicate, List.cons_append, List.nil_append, List.append_nil, List.getElem?_cons_zero, List.getElem?_cons_succ, List.set_cons_zero, List.set_cons_succ, Nat.reduceAdd, Nat.reduceSub, Option.some.injEq, exists_eq_left', exists_eq_left, V.int.injEq, V.bl.injEq, V.str.injEq, V.ref.injEq, List.cons.injEq, and_true, true_and, and_assoc, reduceCtorEq, false_and, exists_false, or_false, false_or, exists_and_left, exists_const, scal, Int.reduceLT, Int.reduceLE, Int.reduceSub, Int.reduceAdd, Int.reduceNeg, if_true, if_false]
      exact ⟨rfl, rfl, .inr (.inl ⟨rfl, fun H2 s2 => qW e e2 H2 (s1.trans s2)⟩)⟩
    · exact q e e1 e2 a b c u v i1 i5 i6 H1 s1
section
variable {x y z : Nat} (hx : okOrd x) (hy : okOrd y) (hz : okOrd z)
include hx hy hz
theorem rows_perm {u w0 : W} {ar : List (Addr × List W)} (n0 : Nw x y z w0) (l0 : w0.length ≤ 12) (hu : u.length ≤ 60) (la : ar.length = w0.length + 1) (hr : ∀ j p, ar[j]? = some p → Row x y z u w0 (w0.length - j) p.2) :
    ((ar.map Prod.snd).flatten).Perm ((allB x y z w0).map fun p => nfw x y z (u ++ p)) ∧ ∀ i, i ≤ ar.length → (((ar.take i).map Prod.snd).flatten).length ≤ 729 * i := by
  have h : ∀ j, j ≤ ar.length → (((ar.take j).map Prod.snd).flatten).Perm ((List.range j).flatMap fun k => (itB x y z [w0] (w0.length - k)).map fun p => nfw x y z (u ++ p)) ∧ (((ar.take j).map Prod.snd).flatten).length ≤ 729 * j := by
    intro j
    induction j with
    | zero => intro _; exact ⟨by simp, by simp⟩
    | succ j ih =>
      intro hj
      obtain ⟨ih1, ih2⟩ := ih (by omega)
      have hg := List.getElem?_eq_getElem (show j < ar.length by omega)
      have hrow := hr j _ hg
      have rp := row_perm hx hy hz hrow n0 (by omega) hu (by omega)
      have h2 := few_itB hx hy hz n0 l0 (n := w0.length - j) (by omega)
      have h3 := Nat.pow_le_pow_right (n := 3) (by decide) (show min (w0.length - j) (12 - (w0.length - j)) ≤ 6 by omega)
      have h4 := rp.length_eq
      rw [List.length_map] at h4
      rw [List.take_add_one, hg, List.map_append, List.flatten_append, List.range_succ, List.flatMap_append]
      simp only [Option.toList_some, List.map_cons, List.map_nil, List.flatten_cons, List.flatten_nil, List.append_nil, List.flatMap_cons, List.flatMap_nil]
      refine ⟨ih1.append rp, ?_⟩
      rw [List.length_append]
      omega
  refine ⟨?_, fun i hi => (h i hi).2⟩
  have h1 := (h ar.length (Nat.le_refl _)).1
  rw [List.take_length, la] at h1
  refine h1.trans ((rev_levels (fun n => (itB x y z [w0] n).map fun p => nfw x y z (u ++ p)) w0.length).trans (List.Perm.of_eq ?_))
  unfold allB fndB
  rw [List.map_flatMap]
theorem third_in {u v t : W} (hu : u.length ≤ 6) (hv : v.length ≤ 6) (ht : t.length ≤ 20) : (nfw x y z (u.reverse ++ t)).length + (nfw x y z (t.reverse ++ v)).length = (nfw x y z (u.reverse ++ v)).length ↔ nfw x y z t ∈ (allB x y z (nfw x y z (u.reverse ++ v))).map fun p => nfw x y z (u ++ p) := by
  obtain ⟨N, R⟩ := nfm hx hy hz
  have l0 : (nfw x y z (u.reverse ++ v)).length ≤ 12 := by
    have := N.l (u.reverse ++ v) (by rw [List.length_append, List.length_reverse]; omega)
    rw [List.length_append, List.length_reverse] at this
    omega
  have n0 : Nw x y z (nfw x y z (u.reverse ++ v)) := N.c _ _ (by omega) (by rw [List.length_append, List.length_reverse]; omega) (N.e _ (by rw [List.length_append, List.length_reverse]; omega)).symm
  have wl : ∀ {p : W}, p.length ≤ 60 → Eqv (om x y z) t (u ++ p) → (nfw x y z (t.reverse ++ v)).length = ln (om x y z) (p.reverse ++ nfw x y z (u.reverse ++ v)) := fun hp e => way_len hx hy hz (by omega) (by omega) hp (by omega) e
  generalize nfw x y z (u.reverse ++ v) = w0 at *
  have mi := mem_itB hx hy hz n0 (by omega)
  have lp := N.l (u.reverse ++ t) (by rw [List.length_append, List.length_reverse]; omega)
  rw [List.length_append, List.length_reverse] at lp
  have ep := N.e (u.reverse ++ t) (by rw [List.length_append, List.length_reverse]; omega)
  rw [List.mem_map]
  constructor
  · intro h
    have np : Nw x y z (nfw x y z (u.reverse ++ t)) := N.c _ _ (by omega) (by rw [List.length_append, List.length_reverse]; omega) ep.symm
    have e : Eqv (om x y z) t (u ++ nfw x y z (u.reverse ++ t)) := (e_in u t).symm.trans (ep.left u)
    rw [wl (by omega) e] at h
    generalize nfw x y z (u.reverse ++ t) = p at *
    refine ⟨p, ?_, (N.c _ _ (by omega) (by rw [List.length_append]; omega) e).symm⟩
    unfold allB fndB
    exact List.mem_flatMap.mpr ⟨w0.length - p.length, List.mem_range.mpr (by omega), (mi _ (by omega) p).2 ⟨np, by omega, by omega⟩⟩
  · rintro ⟨p, hp, e⟩
    unfold allB fndB at hp
    obtain ⟨n, hn, hp⟩ := List.mem_flatMap.mp hp
    have hn := List.mem_range.mp hn
    obtain ⟨k1, k2, k3⟩ := (mi n (by omega) p).1 hp
    have e2 : Eqv (om x y z) t (u ++ p) := by
      have h1 := N.e t (by omega)
      have h2 := N.e (u ++ p) (by rw [List.length_append]; omega)
      rw [e] at h2
      exact h1.trans h2.symm
    rw [wl (by omega) e2, k3]
    have e3 : Eqv (om x y z) (u.reverse ++ t) p := by
      have h1 := e2.left u.reverse
      have h2 := e_in (m := om x y z) u.reverse p
      rw [List.reverse_reverse] at h2
      exact h1.trans h2
    have h4 := N.c _ _ (by rw [List.length_append, List.length_reverse]; omega) (by omega) e3
    rw [k1] at h4
    rw [h4]
    omega
end
theorem ok_law (T : Txt K mg cx) {fa : Addr} {s : Shared} {H : Hp} {a : Addr} {ns : List Int} (g : mg "law" = some (.ref fa)) (hr1 : Room 11 callerA) (e0 : Env0 P w K mg base callerA [] s H) (sq : SqL K H a (ns.map V.int)) (hl : ns.length ≤ 63) :
    codeAny (model P w) callerA (.call (.ref fa) ⟨[.ref a], []⟩) (CR CX0 [] P w H s (fun v _ => v = .bl true) E0) s := by
  have H_law_draws := ok_law_draws (P := P) (w := w) (base := base) T
  have H_law_orders := ok_law_orders (P := P) (w := w) (base := base) T
  have H_law_word := ok_law_word (P := P) (w := w) (base := base) T
  have H_law_next := ok_law_next (P := P) (w := w) (base := base) T
  have H_law_sorted := ok_law_sorted (P := P) (w := w) (base := base) T
  have H_law_told := ok_law_told (P := P) (w := w) (base := base) T
  have H_law_apart := ok_law_apart (P := P) (w := w) (base := base) T
  have H_law_all := ok_law_all (P := P) (w := w) (base := base) T
  have H_law_numbers := ok_law_numbers (P := P) (w := w) (base := base) T
  have H_between := ok_between (P := P) (w := w) (base := base) T
  have H_count_ways := ok_count_ways (P := P) (w := w) (base := base) T
  have H_is_between := ok_is_between (P := P) (w := w) (base := base) T
  have H_Tiles_init := ok_Tiles_init (P := P) (w := w) (mg := mg) (base := base) T
  have H_Tiles_normal := ok_Tiles_normal (P := P) (w := w) (mg := mg) (base := base) T
  refine T.d_law.run (vs := [.ref a]) g sc_law hr1 e0 (.cons rfl .nil) rfl fun cdv hr hG => ?_
  refine ⟨_, (C8.pss_cut (ps_set (i := 1) sc_law.nd rfl (Or.inl rfl) (by exact (FK.pe_h (E := E0) H_law_draws (hr.mono (by decide)) pass0 (pa_cons (pv 0) pa_nil))))
  (C8.pss_cut (ps_expr (pe_bm0 PySem.F.plainAttrs_list PySem.F.slot_list_reverse PySem.F.type_list_reverse mt_reverse (pv 1)))
  (C8.pss_cut (ps_set (i := 2) sc_law.nd rfl (Or.inl rfl) (by exact (FK.pe_h (E := E0) H_law_orders (hr.mono (by decide)) pass0 (pa_cons (pv 1) pa_nil))))
  (C8.pss_cut (ps_set (i := 3) sc_law.nd rfl (Or.inl rfl) (by exact (FK.pe_i (E := E0) H_Tiles_init (hr.mono (by decide)) T.g_Tiles FK.pass1 (pa_cons (pv 2) pa_nil))))
  (C8.pss_cut (ps_set (i := 4) sc_law.nd rfl (Or.inl rfl) (by exact (FK.pe_h (E := E0) H_law_word (hr.mono (by decide)) pass0 (pa_cons (pv 1) (pa_cons pe_int pa_nil)))))
  (C8.pss_cut (ps_set (i := 5) sc_law.nd rfl (Or.inl rfl) (by exact (FK.pe_h (E := E0) H_law_word (hr.mono (by decide)) pass0 (pa_cons (pv 1) (pa_cons pe_int pa_nil)))))
  (C8.pss_cut (ps_if (pt_cmpR op_ne (FK.pe_h (E := E0) H_law_told (hr.mono (by decide)) pass0 (pa_cons (pv 2) (pa_cons (pv 4) (pa_cons (pv 5) pa_nil)))) (FK.pe_h (E := E0) H_law_apart (hr.mono (by decide)) pass0 (pa_cons (pv 3) (pa_cons (pv 4) (pa_cons (pv 5) pa_nil)))) (nomark _)) (pss_one (ps_ret pe_bl)) pss_nil)
  (C8.pss_cut (ps_set (i := 6) sc_law.nd rfl (Or.inl rfl) (by exact (FK.pe_h (E := E0) H_law_all (hr.mono (by decide)) pass0 (pa_cons (pv 3) (pa_cons (pv 4) (pa_cons (pv 5) pa_nil))))))
  (C8.pss_cut (ps_set (i := 7) sc_law.nd rfl (Or.inl rfl) (by exact (pe_lst pa_nil)))
  (C8.pss_cut (ps_for PassesOwn.never rfl (pi_list (pv 6)) (pg_name (i := 8) sc_law.nd rfl (Or.inl rfl))
  (pss_one (ps_set (i := 7) sc_law.nd rfl (Or.inl rfl) (by exact (pe_op op_cat (pv 7) (pv 8))))))
  (C8.pss_cut (ps_set (i := 7) sc_law.nd rfl (Or.inl rfl) (by exact (FK.pe_h (E := E0) H_law_sorted (hr.mono (by decide)) pass0 (pa_cons (pv 7) pa_nil))))
  (C8.pss_cut (ps_set (i := 9) sc_law.nd rfl (Or.inl rfl) (by exact (FK.pe_h (E := E0) H_between (hr.mono (by decide)) FK.pass1 (pa_cons (pv 2) (pa_cons (pv 4) (pa_cons (pv 5) pa_nil))))))
  (C8.pss_cut (ps_if (PW.pt (pw_or (pt_not (pt_val (pe_callB call_isi (by rfl) T.n_isinstance (by decide +kernel) (pa_cons (pv 9) (pa_cons (pe_bltn (v := .ty "list") (by rfl) T.n_list (by decide +kernel) rfl) pa_nil))))) (pw_or1 (pt_cmpR (op_neD hr.units) (pv 9) (pv 7) (nomark _))))) (pss_one (ps_ret pe_bl)) pss_nil)
  (C8.pss_cut (ps_if (pt_cmpR op_ne (FK.pe_h (E := E0) H_count_ways (hr.mono (by decide)) FK.pass1 (pa_cons (pv 2) (pa_cons (pv 4) (pa_cons (pv 5) pa_nil)))) (FK.pe_h (E := E0) H_law_numbers (hr.mono (by decide)) pass0 (pa_cons (pv 3) (pa_cons (pv 6) pa_nil))) (nomark _)) (pss_one (ps_ret pe_bl)) pss_nil)
  (C8.pss_cut (ps_set (i := 10) sc_law.nd rfl (Or.inl rfl) (by exact (FK.pe_h (E := E0) H_law_word (hr.mono (by decide)) pass0 (pa_cons (pv 1) (pa_cons pe_int pa_nil)))))
  (C8.pss_cut (ps_if (pt_cmpR op_eq (pe_op op_mod (pe_callTy FK.call_intI (by rfl) T.n_int (by decide +kernel) (pa_cons (FK.pe_h (E := E0) H_law_next (hr.mono (by decide)) pass0 (pa_cons (pv 1) pa_nil)) pa_nil)) pe_int) pe_int (nomark _)) (pss_one (ps_set (i := 10) sc_law.nd rfl (Or.inl rfl) (by exact (pe_ix (r := rIxL K) ix_list (pv 7) (pe_op op_mod (pe_callTy FK.call_intI (by rfl) T.n_int (by decide +kernel) (pa_cons (FK.pe_h (E := E0) H_law_next (hr.mono (by decide)) pass0 (pa_cons (pv 1) pa_nil)) pa_nil)) (pe_callB call_len_seq (by rfl) T.n_len PySem.boot_len (pa_cons (pv 7) pa_nil))) (fun _ _ => rfl))))) pss_nil)
  (C8.pss_cut (ps_set (i := 11) sc_law.nd rfl (Or.inl rfl) (by exact (FK.pe_h (E := E0) H_is_between (hr.mono (by decide)) FK.pass1 (pa_cons (pv 2) (pa_cons (pv 10) (pa_cons (pv 4) (pa_cons (pv 5) pa_nil)))))))
  (C8.pss_cut (ps_if (PW.pt (pw_or (pt_not (pt_val (pe_callB call_isi (by rfl) T.n_isinstance (by decide +kernel) (pa_cons (pv 11) (pa_cons (pe_bltn (v := .ty "bool") (by rfl) T.n_bool (by decide +kernel) rfl) pa_nil))))) (pw_or1 (pt_cmpR op_ne (pv 11) (pe_cmpR (show OpR _ (compareOp .In) (rIn K false) from op_in_seq) (FK.pe_m (E := E0) (pv 3) T.cl_Tiles H_Tiles_normal (hr.mono (by decide)) FK.pass1 (pa_cons (pv 10) pa_nil)) (pv 7) (by rfl)) (nomark _))))) (pss_one (ps_ret pe_bl)) pss_nil)
  (pss_one (ps_ret (pe_and (pe_cmpR op_eq (FK.pe_h (E := E0) H_law_told (hr.mono (by decide)) pass0 (pa_cons (pe_tup (pa_cons pe_int (pa_cons pe_int pa_nil))) (pa_cons pe_str (pa_cons (pv 4) pa_nil)))) pe_str (nomark _)) (pe_one (pe_cmpR op_eq (FK.pe_h (E := E0) H_law_told (hr.mono (by decide)) pass0 (pa_cons (pv 2) (pa_cons (pv 4) (pa_cons pe_str pa_nil)))) pe_str (nomark _)))))))))))))))))))))))), ?_⟩
  -- draws
  refine ⟨fun σ H => ∃ dr : Addr, σ = [some (.ref a), some (.ref dr), none, none, none, none, none, none, none, none, none, none] ∧ Dr H dr, ?_, ?_⟩
  · exact ⟨_, rfl, a, ns, rfl, sq, hl, fun dr H' hd hD hs => ⟨dr, rfl, hD⟩⟩
  rintro σ H1 ⟨dr, rfl, hD⟩
  refine ⟨fun σ H => σ = [some (.ref a), some (.ref dr), none, none, none, none, none, none, none, none, none, none] ∧ Dr H dr, ?_, ?_⟩
  · simp only [tSeq, tIfS, tOr, tAnd, tB, tTest, tCB, tCons, tVar, tC, tNil, tNot, tNotV, tRet, tRetN, tNext, tBreak, tOrV, tAndV, tOp, tUn, rEq, rNe, tChain, rI0, rI, rU, tAsg, gName, tDrop, tAug, ipI, tIf, tCall, tCallS, tLst, tTup, tBM, tBM0, rAppend, rExtend, rPop, rReverse, tyV, rIxL, rIxT, rIxS, rIsB, rNotB, L2.start, List.map_cons, List.map_nil, List.length_cons, List.length_nil, List.replicate, List.cons_append, List.nil_append, List.append_nil, List.getElem?_cons_zero, List.getElem?_cons_succ, List.set_cons_zero, List.set_cons_succ, Nat.reduceAdd, Nat.reduceSub, Option.some.injEq, exists_eq_left', exists_eq_left, V.int.injEq, V.bl.injEq, V.str.injEq, V.ref.injEq, List.cons.injEq, and_true, true_and, and_assoc, reduceCtorEq, false_and, exists_false, or_false, false_or, exists_and_left, exists_const, scal, Int.reduceLT, Int.reduceLE, Int.reduceSub, Int.reduceAdd, Int.reduceNeg, if_true, if_false]
    obtain ⟨ds, h1, h2, h3⟩ := hD
    exact ⟨.inl ⟨_, SqL.of h1⟩, _, h1, ds.reverse, by rw [upd_same, List.map_reverse], by rw [List.length_reverse]; exact h2, fun z hz => h3 z (List.mem_reverse.mp hz)⟩
  rintro σ H2 ⟨rfl, hD2⟩
  refine ⟨fun σ H => ∃ (o : Addr) (x y z : Nat), σ = [some (.ref a), some (.ref dr), some (.ref o), none, none, none, none, none, none, none, none, none] ∧ Og K H o x y z ∧ Dr H dr, ?_, ?_⟩
  · exact ⟨_, rfl, dr, rfl, hD2, fun o x y z H' hx hy hz ho hd hb => ⟨o, x, y, z, rfl, ⟨ho, hx, hy, hz⟩, hd⟩⟩
  rintro σ H3 ⟨o, x, y, z, rfl, G, hD3⟩
  have hx := G.ha
  have hy := G.hb
  have hz := G.hc
  refine ⟨fun σ H => ∃ t f n d : Addr, σ = [some (.ref a), some (.ref dr), some (.ref o), some (.ref t), none, none, none, none, none, none, none, none] ∧ Sv K cx.Tiles cx.Floor H o t f n d x y z 0 ∧ Dr H dr, ?_, ?_⟩
  · simp only [tSeq, tIfS, tOr, tAnd, tB, tTest, tCB, tCons, tVar, tC, tNil, tNot, tNotV, tRet, tRetN, tNext, tBreak, tOrV, tAndV, tOp, tUn, rEq, rNe, tChain, rI0, rI, rU, tAsg, gName, tDrop, tAug, ipI, tIf, tCall, tCallS, tLst, tTup, tBM, tBM0, rAppend, rExtend, rPop, rReverse, tyV, rIxL, rIxT, rIxS, rIsB, rNotB, L2.start, List.map_cons, List.map_nil, List.length_cons, List.length_nil, List.replicate, List.cons_append, List.nil_append, List.append_nil, List.getElem?_cons_zero, List.getElem?_cons_succ, List.set_cons_zero, List.set_cons_succ, Nat.reduceAdd, Nat.reduceSub, Option.some.injEq, exists_eq_left', exists_eq_left, V.int.injEq, V.bl.injEq, V.str.injEq, V.ref.injEq, List.cons.injEq, and_true, true_and, and_assoc, reduceCtorEq, false_and, exists_false, or_false, false_or, exists_and_left, exists_const, scal, Int.reduceLT, Int.reduceLE, Int.reduceSub, Int.reduceAdd, Int.reduceNeg, if_true, if_false, tMake]
    refine fun t dx ht hdx ne => ⟨t, o, dx, x, y, z, rfl, upd_same, G.same ((FK.same_new hdx).trans (FK.same_new (by rw [upd_ne ne.symm]; exact ht))), fun f n d H' Tl hn hd fr => ⟨rfl, f, n, d, sv_new G ht ((FK.same_new hdx).trans (FK.same_new (by rw [upd_ne ne.symm]; exact ht))) Tl fr, ?_⟩⟩
    have hd3 : Dr (upd (upd H3 dx (.own t)) t (.ins cx.Tiles dx [])) dr := hD3.same ((FK.same_new hdx).trans (FK.same_new (by rw [upd_ne ne.symm]; exact ht)))
    obtain ⟨ds, h1, h2⟩ := hd3
    exact ⟨ds, fr _ _ h1 (fun q => by rw [q, upd_same] at h1; cases h1), h2⟩
  rintro σ H4 ⟨t, f, n, d, rfl, S4, hD4⟩
  refine ⟨fun σ H => ∃ u : W, σ = [some (.ref a), some (.ref dr), some (.ref o), some (.ref t), some (.str (wS (u))), none, none, none, none, none, none, none] ∧ u.length ≤ 6 ∧ Sv K cx.Tiles cx.Floor H o t f n d x y z 0 ∧ Dr H dr, ?_, ?_⟩
  · exact ⟨_, rfl, dr, 6, rfl, hD4, by decide, fun u Ha lu hda ba => ⟨u, rfl, lu, S4.but hD4 ba, hda⟩⟩
  rintro σ H5 ⟨u, rfl, lu, S5, hD5⟩
  refine ⟨fun σ H => ∃ v : W, σ = [some (.ref a), some (.ref dr), some (.ref o), some (.ref t), some (.str (wS (u))), some (.str (wS (v))), none, none, none, none, none, none] ∧ v.length ≤ 6 ∧ Sv K cx.Tiles cx.Floor H o t f n d x y z 0 ∧ Dr H dr, ?_, ?_⟩
  · exact ⟨_, rfl, dr, 6, rfl, hD5, by decide, fun u Ha lu hda ba => ⟨u, rfl, lu, S5.but hD5 ba, hda⟩⟩
  rintro σ H6 ⟨v, rfl, lv, S6, hD6⟩
  obtain ⟨N, R0⟩ := nfm hx hy hz
  have tin := fun {t : W} => third_in hx hy hz (u := u) (v := v) (t := t) lu lv
  have l0 : (nfw x y z (u.reverse ++ v)).length ≤ 12 := by
    have := N.l (u.reverse ++ v) (by rw [List.length_append, List.length_reverse]; omega)
    rw [List.length_append, List.length_reverse] at this
    omega
  have n0 : Nw x y z (nfw x y z (u.reverse ++ v)) := N.c _ _ (by omega) (by rw [List.length_append, List.length_reverse]; omega) (N.e _ (by rw [List.length_append, List.length_reverse]; omega)).symm
  have ok6 : ∀ w : W, w.length ≤ 6 → okWord (wS w) 60 = true := fun w h => okWord_wS (by omega)
  refine ⟨fun σ H => σ = [some (.ref a), some (.ref dr), some (.ref o), some (.ref t), some (.str (wS (u))), some (.str (wS (v))), none, none, none, none, none, none] ∧ Sv K cx.Tiles cx.Floor H o t f n d x y z 1 ∧ Dr H dr, ?_, ?_⟩
  · simp only [tSeq, tIfS, tOr, tAnd, tB, tTest, tCB, tCons, tVar, tC, tNil, tNot, tNotV, tRet, tRetN, tNext, tBreak, tOrV, tAndV, tOp, tUn, rEq, rNe, tChain, rI0, rI, rU, tAsg, gName, tDrop, tAug, ipI, tIf, tCall, tCallS, tLst, tTup, tBM, tBM0, rAppend, rExtend, rPop, rReverse, tyV, rIxL, rIxT, rIxS, rIsB, rNotB, L2.start, List.map_cons, List.map_nil, List.length_cons, List.length_nil, List.replicate, List.cons_append, List.nil_append, List.append_nil, List.getElem?_cons_zero, List.getElem?_cons_succ, List.set_cons_zero, List.set_cons_succ, Nat.reduceAdd, Nat.reduceSub, Option.some.injEq, exists_eq_left', exists_eq_left, V.int.injEq, V.bl.injEq, V.str.injEq, V.ref.injEq, List.cons.injEq, and_true, true_and, and_assoc, reduceCtorEq, false_and, exists_false, or_false, false_or, exists_and_left, exists_const, scal, Int.reduceLT, Int.reduceLE, Int.reduceSub, Int.reduceAdd, Int.reduceNeg, if_true, if_false]
    refine ⟨o, [(x : Int), (y : Int), (z : Int)], wS u, wS v, rfl, SqT.of S6.g.ob, szw (by omega), szw (by omega), (fun e => by rw [S6.g.ok] at e; cases e), (fun _ e => by rw [ok6 u lu, ok6 v lv] at e; cases e), fun _ _ _ a' b' c' u' v' e e2 e3 Ha sa => ?_⟩
    obtain ⟨rfl, rfl, rfl⟩ := inj3 e
    rw [← wS_inj e2, ← wS_inj e3]
    exact ⟨t, f, n, o, d, x, y, z, 0, u, v, rfl, S6.same sa, by omega, by omega, by omega, fun Hb Sb bb => ⟨rfl, iteF' (by simp) ⟨Sb, (S6.same sa).dr bb (hD6.same sa)⟩⟩⟩
  rintro σ H7 ⟨rfl, S7, hD7⟩
  refine ⟨fun σ H => ∃ (R : Addr) (ar : List (Addr × List W)), σ = [some (.ref a), some (.ref dr), some (.ref o), some (.ref t), some (.str (wS (u))), some (.str (wS (v))), some (.ref R), none, none, none, none, none] ∧ ar.length = (nfw x y z (u.reverse ++ v)).length + 1 ∧ (∀ j p, ar[j]? = some p → Row x y z u (nfw x y z (u.reverse ++ v)) ((nfw x y z (u.reverse ++ v)).length - j) p.2) ∧ RowsAt H R ar ∧ Sv K cx.Tiles cx.Floor H o t f n d x y z 100001 ∧ Dr H dr, ?_, ?_⟩
  · exact ⟨_, rfl, _, rfl, _, rfl, t, f, n, o, d, x, y, z, 1, u, v, rfl, S7, lu, lv, by omega, fun ar R Ha la hr ra Sa b2 => ⟨R, ar, rfl, la, hr, ra, Sa, S7.dr b2 hD7⟩⟩
  rintro σ H8 ⟨R, ar, rfl, la, hrw, r8, S8, hD8⟩
  obtain ⟨hperm, hlen⟩ := rows_perm hx hy hz n0 l0 (by omega) la hrw
  have cwr := cw_RR hx hy hz n0 (by omega)
  have all14 : ∀ w0 ∈ allB x y z (nfw x y z (u.reverse ++ v)), w0.length ≤ 14 := fun w0 h => fndB_short hx hy hz n0 (by omega) (Nat.le_refl _) h
  have allN : (allB x y z (nfw x y z (u.reverse ++ v))).length ≤ 1457 := few_fnd hx hy hz n0 l0 (Nat.le_refl _)
  generalize hw : nfw x y z (u.reverse ++ v) = w0 at *
  refine ⟨fun σ H => ∃ p : Addr, σ = [some (.ref a), some (.ref dr), some (.ref o), some (.ref t), some (.str (wS (u))), some (.str (wS (v))), some (.ref R), some (.ref p), none, none, none, none] ∧ H p = some (.lst []) ∧ RowsAt H R ar ∧ Sv K cx.Tiles cx.Floor H o t f n d x y z 100001 ∧ Dr H dr, ?_, ?_⟩
  · simp only [tSeq, tIfS, tOr, tAnd, tB, tTest, tCB, tCons, tVar, tC, tNil, tNot, tNotV, tRet, tRetN, tNext, tBreak, tOrV, tAndV, tOp, tUn, rEq, rNe, tChain, rI0, rI, rU, tAsg, gName, tDrop, tAug, ipI, tIf, tCall, tCallS, tLst, tTup, tBM, tBM0, rAppend, rExtend, rPop, rReverse, tyV, rIxL, rIxT, rIxS, rIsB, rNotB, L2.start, List.map_cons, List.map_nil, List.length_cons, List.length_nil, List.replicate, List.cons_append, List.nil_append, List.append_nil, List.getElem?_cons_zero, List.getElem?_cons_succ, List.set_cons_zero, List.set_cons_succ, Nat.reduceAdd, Nat.reduceSub, Option.some.injEq, exists_eq_left', exists_eq_left, V.int.injEq, V.bl.injEq, V.str.injEq, V.ref.injEq, List.cons.injEq, and_true, true_and, and_assoc, reduceCtorEq, false_and, exists_false, or_false, false_or, exists_and_left, exists_const, scal, Int.reduceLT, Int.reduceLE, Int.reduceSub, Int.reduceAdd, Int.reduceNeg, if_true, if_false]
    exact ⟨Nat.zero_le _, fun p hp => ⟨upd_same, r8.same (FK.same_new hp), S8.same (FK.same_new hp), hD8.same (FK.same_new hp)⟩⟩
  rintro σ H9 ⟨p9, rfl, eP9, r9, S9, hD9⟩
  refine ⟨fun σ H => ∃ (p : Addr) (v8 : Option V), σ = [some (.ref a), some (.ref dr), some (.ref o), some (.ref t), some (.str (wS (u))), some (.str (wS (v))), some (.ref R), some (.ref p), v8, none, none, none] ∧ H p = some (.lst ((((ar.map Prod.snd).flatten).map wS).map V.str)) ∧ RowsAt H R ar ∧ Sv K cx.Tiles cx.Floor H o t f n d x y z 100001 ∧ Dr H dr, ?_, ?_⟩
  · refine FK.rd_for (J := Itl K R) (H1 := H9) (fun R' r => ⟨_, rfl, R, rfl, ⟨_, SqL.of r9.r⟩, r⟩) (walk_list (xs := ar.map fun p => V.ref p.1))
      (fun i σ H => ∃ (p : Addr) (v8 : Option V), σ = [some (.ref a), some (.ref dr), some (.ref o), some (.ref t), some (.str (wS (u))), some (.str (wS (v))), some (.ref R), some (.ref p), v8, none, none, none] ∧ H p = some (.lst (((((ar.take i).map Prod.snd).flatten).map wS).map V.str)) ∧ RowsAt H R ar ∧ Sv K cx.Tiles cx.Floor H o t f n d x y z 100001 ∧ Dr H dr)
      ⟨p9, none, rfl, eP9, r9, S9, hD9⟩ (fun i σ H' _ ⟨_, _, _, _, h, _⟩ => SqL.of h.r) ?_ ?_
    · rintro i x' σ Ha Hb hi ⟨p, v8, rfl, eP, ra, Sa, da⟩ ⟨rfl, hx'⟩
      rw [List.length_map] at hi
      have hg := List.getElem?_eq_getElem hi
      rw [List.getElem?_map, hg] at hx'
      cases hx'
      have hl1 := hlen (i + 1) (by omega)
      have ef : ((ar.take (i + 1)).map Prod.snd).flatten = ((ar.take i).map Prod.snd).flatten ++ (ar[i]).2 := by
        rw [List.take_add_one, hg, List.map_append, List.flatten_append]
        simp
      simp only [tSeq, tIfS, tOr, tAnd, tB, tTest, tCB, tCons, tVar, tC, tNil, tNot, tNotV, tRet, tRetN, tNext, tBreak, tOrV, tAndV, tOp, tUn, rEq, rNe, tChain, rI0, rI, rU, tAsg, gName, tDrop, tAug, ipI, tIf, tCall, tCallS, tLst, tTup, tBM, tBM0, rAppend, rExtend, rPop, rReverse, tyV, rIxL, rIxT, rIxS, rIsB, rNotB, L2.start, List.map_cons, List.map_nil, List.length_cons, List.length_nil, List.replicate, List.cons_append, List.nil_append, List.append_nil, List.getElem?_cons_zero, List.getElem?_cons_succ, List.set_cons_zero, List.set_cons_succ, Nat.reduceAdd, Nat.reduceSub, Option.some.injEq, exists_eq_left', exists_eq_left, V.int.injEq, V.bl.injEq, V.str.injEq, V.ref.injEq, List.cons.injEq, and_true, true_and, and_assoc, reduceCtorEq, false_and, exists_false, or_false, false_or, exists_and_left, exists_const, scal, Int.reduceLT, Int.reduceLE, Int.reduceSub, Int.reduceAdd, Int.reduceNeg, if_true, if_false]
      refine ⟨p, _, _, _, rfl, rfl, eP, ra.e _ (List.getElem_mem hi), ?_, fun p2 hp2 => ⟨p2, rfl, ?_, ra.same (FK.same_new hp2), Sa.same (FK.same_new hp2), da.same (FK.same_new hp2)⟩⟩
      · rw [ef, List.length_append] at hl1
        simp only [List.length_map]
        exact Nat.le_trans (show _ ≤ 20000 by omega) (by decide)
      · rw [upd_same, ef, List.map_append, List.map_append]
    · rintro σ Ha ⟨p, v8, rfl, eP, ra, Sa, da⟩
      rw [List.length_map, List.take_length] at eP
      exact ⟨p, v8, rfl, eP, ra, Sa, da⟩
  rintro σ H10 ⟨p10, v8, rfl, eP10, r10, S10, hD10⟩
  have lfl : ((ar.map Prod.snd).flatten).length ≤ 1457 := by
    rw [hperm.length_eq, List.length_map]
    exact allN
  have fl5 : ∀ w1 ∈ (ar.map Prod.snd).flatten, w1.length ≤ 20 := fun w1 h => by
    obtain ⟨p, hp, rfl⟩ := List.mem_map.mp (hperm.mem_iff.mp h)
    have h1 := all14 p hp
    have := N.l (u ++ p) (by rw [List.length_append]; omega)
    rw [List.length_append] at this
    omega
  refine ⟨fun σ H => ∃ (D : Addr) (ds : List W) (v8 : Option V), σ = [some (.ref a), some (.ref dr), some (.ref o), some (.ref t), some (.str (wS (u))), some (.str (wS (v))), some (.ref R), some (.ref D), v8, none, none, none] ∧ ds.Perm ((ar.map Prod.snd).flatten) ∧ ds.Pairwise ole ∧ D ≠ dr ∧ H D = some (.lst ((ds.map wS).map V.str)) ∧ RowsAt H R ar ∧ Sv K cx.Tiles cx.Floor H o t f n d x y z 100001 ∧ Dr H dr, ?_, ?_⟩
  · exact ⟨_, rfl, p10, _, rfl, eP10, by omega, fun w1 h => by have := fl5 w1 h; omega, fun ys D Ha pm pw hp e sa => ⟨D, ys, v8, rfl, pm, pw, hD10.ne hp, e, r10.same sa, S10.same sa, hD10.same sa⟩⟩
  rintro σ H11 ⟨D, ds, v8, rfl, pmD, pwD, nDr, eD11, r11, S11, hD11⟩
  have pmA := pmD.trans hperm
  refine ⟨fun σ H => ∃ (B : Addr) (bs : List W), σ = [some (.ref a), some (.ref dr), some (.ref o), some (.ref t), some (.str (wS (u))), some (.str (wS (v))), some (.ref R), some (.ref D), v8, some (.ref B), none, none] ∧ bs = ds ∧ H B = some (.lst ((bs.map wS).map V.str)) ∧ H D = some (.lst ((ds.map wS).map V.str)) ∧ RowsAt H R ar ∧ Sv K cx.Tiles cx.Floor H o t f n d x y z 100001 ∧ Dr H dr, ?_, ?_⟩
  · refine ⟨_, rfl, _, rfl, _, rfl, o, x, y, z, u, v, rfl, S11.g, by omega, by omega, by rw [hw]; exact l0, fun ys B Ha pm pw hp e sa => ⟨B, ys, rfl, ?_, e, sa _ _ eD11, r11.same sa, S11.same sa, hD11.same sa⟩⟩
    rw [hw] at pm
    exact ole_uniq (pm.trans pmA.symm) pw pwD
  rintro σ H12 ⟨B, bs, rfl, rfl, eB12, eD12, r12, S12, hD12⟩
  refine ⟨fun σ H => σ = [some (.ref a), some (.ref dr), some (.ref o), some (.ref t), some (.str (wS (u))), some (.str (wS (v))), some (.ref R), some (.ref D), v8, some (.ref B), none, none] ∧ H D = some (.lst ((bs.map wS).map V.str)) ∧ RowsAt H R ar ∧ Sv K cx.Tiles cx.Floor H o t f n d x y z 100001 ∧ Dr H dr, ?_, ?_⟩
  · simp only [tSeq, tIfS, tOr, tAnd, tB, tTest, tCB, tCons, tVar, tC, tNil, tNot, tNotV, tRet, tRetN, tNext, tBreak, tOrV, tAndV, tOp, tUn, rEq, rNe, tChain, rI0, rI, rU, tAsg, gName, tDrop, tAug, ipI, tIf, tCall, tCallS, tLst, tTup, tBM, tBM0, rAppend, rExtend, rPop, rReverse, tyV, rIxL, rIxT, rIxS, rIsB, rNotB, L2.start, List.map_cons, List.map_nil, List.length_cons, List.length_nil, List.replicate, List.cons_append, List.nil_append, List.append_nil, List.getElem?_cons_zero, List.getElem?_cons_succ, List.set_cons_zero, List.set_cons_succ, Nat.reduceAdd, Nat.reduceSub, Option.some.injEq, exists_eq_left', exists_eq_left, V.int.injEq, V.bl.injEq, V.str.injEq, V.ref.injEq, List.cons.injEq, and_true, true_and, and_assoc, reduceCtorEq, false_and, exists_false, or_false, false_or, exists_and_left, exists_const, scal, Int.reduceLT, Int.reduceLE, Int.reduceSub, Int.reduceAdd, Int.reduceNeg, if_true, if_false]
    exact ⟨_, _, _, _, true, rfl, .ty "list", .base (.lst eB12), kit_ty (by decide +kernel), _, rfl, iteF' (by simp) (neD_words (SqL.of eB12) (SqL.of eD12) ⟨_, rfl, iteF' (by simp) ⟨eD12, r12, S12, hD12⟩⟩)⟩
  rintro σ H13 ⟨rfl, eD13, r13, S13, hD13⟩
  have nDS := S13.nel eD13
  refine ⟨fun σ H => σ = [some (.ref a), some (.ref dr), some (.ref o), some (.ref t), some (.str (wS (u))), some (.str (wS (v))), some (.ref R), some (.ref D), v8, some (.ref B), none, none] ∧ H D = some (.lst ((bs.map wS).map V.str)) ∧ Sv K cx.Tiles cx.Floor H o t f n d x y z 200001 ∧ Dr H dr, ?_, ?_⟩
  · simp only [tSeq, tIfS, tOr, tAnd, tB, tTest, tCB, tCons, tVar, tC, tNil, tNot, tNotV, tRet, tRetN, tNext, tBreak, tOrV, tAndV, tOp, tUn, rEq, rNe, tChain, rI0, rI, rU, tAsg, gName, tDrop, tAug, ipI, tIf, tCall, tCallS, tLst, tTup, tBM, tBM0, rAppend, rExtend, rPop, rReverse, tyV, rIxL, rIxT, rIxS, rIsB, rNotB, L2.start, List.map_cons, List.map_nil, List.length_cons, List.length_nil, List.replicate, List.cons_append, List.nil_append, List.append_nil, List.getElem?_cons_zero, List.getElem?_cons_succ, List.set_cons_zero, List.set_cons_succ, Nat.reduceAdd, Nat.reduceSub, Option.some.injEq, exists_eq_left', exists_eq_left, V.int.injEq, V.bl.injEq, V.str.injEq, V.ref.injEq, List.cons.injEq, and_true, true_and, and_assoc, reduceCtorEq, false_and, exists_false, or_false, false_or, exists_and_left, exists_const, scal, Int.reduceLT, Int.reduceLE, Int.reduceSub, Int.reduceAdd, Int.reduceNeg, if_true, if_false]
    refine ⟨o, x, y, z, u, v, rfl, S13.g, by omega, by omega, by rw [hw]; omega, fun Ha sa => ?_⟩
    rw [hw]
    exact ⟨t, f, n, o, d, R, x, y, z, _, u, w0, ar, rfl, S13.same sa, lu, by omega, n0, l0, r13.same sa, la, hrw, fun Hb Sb bb => ⟨rfl, iteF' (by rw [cwr]; simp) ⟨(S13.same sa).lst bb (sa _ _ eD13), Sb, (S13.same sa).dr bb (hD13.same sa)⟩⟩⟩
  rintro σ H14 ⟨rfl, eD14, S14, hD14⟩
  refine ⟨fun σ H => ∃ w3 : W, σ = [some (.ref a), some (.ref dr), some (.ref o), some (.ref t), some (.str (wS (u))), some (.str (wS (v))), some (.ref R), some (.ref D), v8, some (.ref B), some (.str (wS (w3))), none] ∧ w3.length ≤ 20 ∧ H D = some (.lst ((bs.map wS).map V.str)) ∧ Sv K cx.Tiles cx.Floor H o t f n d x y z 200001 ∧ Dr H dr, ?_, ?_⟩
  · exact ⟨_, rfl, dr, 6, rfl, hD14, by decide, fun w3 Ha l3 hda ba => ⟨w3, rfl, by omega, ba _ _ nDr eD14, S14.but hD14 ba, hda⟩⟩
  rintro σ H15 ⟨w3, rfl, l3, eD15, S15, hD15⟩
  refine ⟨fun σ H => ∃ w3 : W, σ = [some (.ref a), some (.ref dr), some (.ref o), some (.ref t), some (.str (wS (u))), some (.str (wS (v))), some (.ref R), some (.ref D), v8, some (.ref B), some (.str (wS (w3))), none] ∧ w3.length ≤ 20 ∧ H D = some (.lst ((bs.map wS).map V.str)) ∧ Sv K cx.Tiles cx.Floor H o t f n d x y z 200001, ?_, ?_⟩
  · simp only [tSeq, tIfS, tOr, tAnd, tB, tTest, tCB, tCons, tVar, tC, tNil, tNot, tNotV, tRet, tRetN, tNext, tBreak, tOrV, tAndV, tOp, tUn, rEq, rNe, tChain, rI0, rI, rU, tAsg, gName, tDrop, tAug, ipI, tIf, tCall, tCallS, tLst, tTup, tBM, tBM0, rAppend, rExtend, rPop, rReverse, tyV, rIxL, rIxT, rIxS, rIsB, rNotB, L2.start, List.map_cons, List.map_nil, List.length_cons, List.length_nil, List.replicate, List.cons_append, List.nil_append, List.append_nil, List.getElem?_cons_zero, List.getElem?_cons_succ, List.set_cons_zero, List.set_cons_succ, Nat.reduceAdd, Nat.reduceSub, Option.some.injEq, exists_eq_left', exists_eq_left, V.int.injEq, V.bl.injEq, V.str.injEq, V.ref.injEq, List.cons.injEq, and_true, true_and, and_assoc, reduceCtorEq, false_and, exists_false, or_false, false_or, exists_and_left, exists_const, scal, Int.reduceLT, Int.reduceLE, Int.reduceSub, Int.reduceAdd, Int.reduceNeg, if_true, if_false]
    have hpos : 0 < bs.length := by
      rw [pmA.length_eq, List.length_map]
      refine List.length_pos_of_mem (a := w0) ?_
      unfold allB fndB
      exact List.mem_flatMap.mpr ⟨0, List.mem_range.mpr (by omega), List.mem_singleton.mpr rfl⟩
    have b20 : ∀ w1 ∈ bs, w1.length ≤ 20 := fun w1 h => fl5 w1 (pmD.mem_iff.mp h)
    have ld : ((bs.map wS).map V.str).length = bs.length := by rw [List.length_map, List.length_map]
    refine ⟨dr, rfl, hD15, fun r Ha r0 r1 hda ba => ⟨r, rfl, ?_⟩⟩
    have Sa := S15.but hD15 ba
    by_cases c : r % 2 = 0
    · refine iteT' (decide_eq_true c) ⟨dr, rfl, hda, fun r2 Hb r20 r21 hdb bb => ⟨r2, rfl, ?_⟩⟩
      have eDb := bb _ _ nDr (ba _ _ nDr eD15)
      obtain ⟨x5, hx5, hm⟩ := atI_mem (cs := (bs.map wS).map V.str) (r := r2 % (((bs.map wS).map V.str).length : Nat)) (Int.emod_nonneg _ (by rw [ld]; omega)) (Int.emod_lt_of_pos _ (by rw [ld]; omega))
      obtain ⟨y5, hy5, rfl⟩ := List.mem_map.mp hm
      obtain ⟨w5, hw5, rfl⟩ := List.mem_map.mp hy5
      exact ⟨_, .inl (SqL.of eDb), by rw [ld]; omega, _, SqL.of eDb, _, hx5, w5, rfl, b20 w5 hw5, eDb, Sa.but hda bb⟩
    · exact iteF' (fun z' => c (of_decide_eq_true z')) ⟨w3, rfl, l3, ba _ _ nDr eD15, Sa⟩
  rintro σ H16 ⟨w4, rfl, l4, eD16, S16⟩
  refine ⟨fun σ H => σ = [some (.ref a), some (.ref dr), some (.ref o), some (.ref t), some (.str (wS (u))), some (.str (wS (v))), some (.ref R), some (.ref D), v8, some (.ref B), some (.str (wS (w4))), some (V.bl ((decide (nfw x y z w4 ∈ bs))))] ∧ H D = some (.lst ((bs.map wS).map V.str)) ∧ Sv K cx.Tiles cx.Floor H o t f n d x y z 200001, ?_, ?_⟩
  · simp only [tSeq, tIfS, tOr, tAnd, tB, tTest, tCB, tCons, tVar, tC, tNil, tNot, tNotV, tRet, tRetN, tNext, tBreak, tOrV, tAndV, tOp, tUn, rEq, rNe, tChain, rI0, rI, rU, tAsg, gName, tDrop, tAug, ipI, tIf, tCall, tCallS, tLst, tTup, tBM, tBM0, rAppend, rExtend, rPop, rReverse, tyV, rIxL, rIxT, rIxS, rIsB, rNotB, L2.start, List.map_cons, List.map_nil, List.length_cons, List.length_nil, List.replicate, List.cons_append, List.nil_append, List.append_nil, List.getElem?_cons_zero, List.getElem?_cons_succ, List.set_cons_zero, List.set_cons_succ, Nat.reduceAdd, Nat.reduceSub, Option.some.injEq, exists_eq_left', exists_eq_left, V.int.injEq, V.bl.injEq, V.str.injEq, V.ref.injEq, List.cons.injEq, and_true, true_and, and_assoc, reduceCtorEq, false_and, exists_false, or_false, false_or, exists_and_left, exists_const, scal, Int.reduceLT, Int.reduceLE, Int.reduceSub, Int.reduceAdd, Int.reduceNeg, if_true, if_false]
    refine ⟨o, x, y, z, w4, u, v, rfl, S16.g, by omega, by omega, by omega, fun Ha sa => ⟨?_, sa _ _ eD16, S16.same sa⟩⟩
    rw [hw]
    have h9 := (tin l4).trans pmA.mem_iff.symm
    first | exact h9 | exact decide_eq_decide.2 h9 | (rw [decide_eq_decide.2 h9])
  rintro σ H17 ⟨rfl, eD17, S17⟩
  refine ⟨fun σ H => σ = [some (.ref a), some (.ref dr), some (.ref o), some (.ref t), some (.str (wS (u))), some (.str (wS (v))), some (.ref R), some (.ref D), v8, some (.ref B), some (.str (wS (w4))), some (V.bl ((decide (nfw x y z w4 ∈ bs))))] ∧ Og K H o x y z, ?_, ?_⟩
  · simp only [tSeq, tIfS, tOr, tAnd, tB, tTest, tCB, tCons, tVar, tC, tNil, tNot, tNotV, tRet, tRetN, tNext, tBreak, tOrV, tAndV, tOp, tUn, rEq, rNe, tChain, rI0, rI, rU, tAsg, gName, tDrop, tAug, ipI, tIf, tCall, tCallS, tLst, tTup, tBM, tBM0, rAppend, rExtend, rPop, rReverse, tyV, rIxL, rIxT, rIxS, rIsB, rNotB, L2.start, List.map_cons, List.map_nil, List.length_cons, List.length_nil, List.replicate, List.cons_append, List.nil_append, List.append_nil, List.getElem?_cons_zero, List.getElem?_cons_succ, List.set_cons_zero, List.set_cons_succ, Nat.reduceAdd, Nat.reduceSub, Option.some.injEq, exists_eq_left', exists_eq_left, V.int.injEq, V.bl.injEq, V.str.injEq, V.ref.injEq, List.cons.injEq, and_true, true_and, and_assoc, reduceCtorEq, false_and, exists_false, or_false, false_or, exists_and_left, exists_const, scal, Int.reduceLT, Int.reduceLE, Int.reduceSub, Int.reduceAdd, Int.reduceNeg, if_true, if_false, tMeth]
    obtain ⟨dx, t1⟩ := S17.tl.ob
    exact ⟨_, _, _, _, true, rfl, .ty "bool", .base (.bl _), kit_ty (by decide +kernel), _, rfl, iteF' (by simp) ⟨dx, _, t1, fldsT_no _ _ (by decide +kernel) (by decide +kernel), t, f, n, o, d, x, y, z, _, w4, rfl, S17.tl, by omega, by omega, fun Ha Tl b2 => ⟨D, _, rfl, .inl (SqL.of (S17.lst b2 eD17)), rfl, flat_words bs, rfl, iteF' (by rw [inV_wS]; simp) (S17.nrm Tl b2).g⟩⟩⟩
  rintro σ H18 ⟨rfl, G18⟩
  simp only [tSeq, tIfS, tOr, tAnd, tB, tTest, tCB, tCons, tVar, tC, tNil, tNot, tNotV, tRet, tRetN, tNext, tBreak, tOrV, tAndV, tOp, tUn, rEq, rNe, tChain, rI0, rI, rU, tAsg, gName, tDrop, tAug, ipI, tIf, tCall, tCallS, tLst, tTup, tBM, tBM0, rAppend, rExtend, rPop, rReverse, tyV, rIxL, rIxT, rIxS, rIsB, rNotB, L2.start, List.map_cons, List.map_nil, List.length_cons, List.length_nil, List.replicate, List.cons_append, List.nil_append, List.append_nil, List.getElem?_cons_zero, List.getElem?_cons_succ, List.set_cons_zero, List.set_cons_succ, Nat.reduceAdd, Nat.reduceSub, Option.some.injEq, exists_eq_left', exists_eq_left, V.int.injEq, V.bl.injEq, V.str.injEq, V.ref.injEq, List.cons.injEq, and_true, true_and, and_assoc, reduceCtorEq, false_and, exists_false, or_false, false_or, exists_and_left, exists_const, scal, Int.reduceLT, Int.reduceLE, Int.reduceSub, Int.reduceAdd, Int.reduceNeg, if_true, if_false]
  refine ⟨by decide, fun p hp => ⟨p, [2, 3], "x", wS u, rfl, SqT.of upd_same, by decide +kernel, szw (by omega), fun _ Ha sa => ⟨rfl, iteT' (by simp) ?_⟩, fun e => absurd e (by decide), fun e => absurd e (by decide)⟩⟩
  have Ga := (G18.same (FK.same_new (o := HO.tup [V.int 2, V.int 3]) hp)).same sa
  exact ⟨o, [(x : Int), (y : Int), (z : Int)], wS u, "3", rfl, SqT.of Ga.ob, szw (by omega), by decide +kernel, (fun e => by rw [Ga.ok] at e; cases e), fun _ _ Hb sb => ⟨rfl, by simp⟩, fun _ _ e => by rw [show okWord "3" 60 = false by decide +kernel] at e; cases e⟩

end
end K19

namespace K19
open PySem PySem.Spec PyProof.Rows L2
theorem law_holds {P : Program} {w : World} {K : PySem.W.Frag} {mg : Str → Option Value} {h : Heap} {fa : Addr} (inK : K.In h) (T : ∃ cx : Xs, Txt K mg cx) (g : mg "law" = some (.ref fa)) (base : Heap) (s : Shared) (H : Hp) (a : Addr) (ns : List Int) (hl : ns.length ≤ 63) (hb : ∀ z ∈ ns, Builtin.Int.intBits z ≤ 1048576)
    (e0 : Env0 P w K mg base callerA [] s H) (sq : SqL K H a (ns.map V.int)) : codeAny (model P w) callerA (.call (.ref fa) ⟨[.ref a], []⟩) (CR CX0 [] P w H s (fun v _ => v = .bl true) E0) s := by
  obtain ⟨cx, T⟩ := T
  exact ok_law T g ⟨rfl, by decide, by decide⟩ e0 sq hl
end K19
open PySem PySem.W PyProof.Rows
set_option maxHeartbeats 0 in
theorem PySem.Challenge.cw_foldfloor_k19_distances_and_tiles_betwee_holds : PySem.Challenge.rw_foldfloor_k19_distances_and_tiles_betwee.Holds := by
  w_on; o_law; k_head; (case hw => w_witness2)
  k_fill
  refine FK.walk_law (l := PySem.Challenge.rw_foldfloor_k19_distances_and_tiles_betwee) (n := 63) rfl (by decide) rfl (fun w h Y => PySem.W.kIn_of Y) ?F
  intro w mg fa h KX G hmg
  refine K19.law_holds KX ?T hmg
  case T =>
    refine' K19.mk_txt {
      d_is_order := FK.at_mk KX G ?q1_a ?q1_l ?q1_c ?q1_k (fun _ _ _ _ _ _ us hl => match us, hl with | [_], _ => rfl),
      d_is_orders := FK.at_mk KX G ?q2_a ?q2_l ?q2_c ?q2_k (fun _ _ _ _ _ _ us hl => match us, hl with | [_], _ => rfl),
      d_check_orders := FK.at_mk KX G ?q3_a ?q3_l ?q3_c ?q3_k (fun _ _ _ _ _ _ us hl => match us, hl with | [_], _ => rfl),
      d_is_letter := FK.at_mk KX G ?q4_a ?q4_l ?q4_c ?q4_k (fun _ _ _ _ _ _ us hl => match us, hl with | [_], _ => rfl),
      d_is_word := FK.at_mk KX G ?q5_a ?q5_l ?q5_c ?q5_k (fun _ _ _ _ _ _ us hl => match us, hl with | [_, _], _ => rfl),
      d_check_long_word := FK.at_mk KX G ?q6_a ?q6_l ?q6_c ?q6_k (fun _ _ _ _ _ _ us hl => match us, hl with | [_, _], _ => rfl),
      d_check_word := FK.at_mk KX G ?q7_a ?q7_l ?q7_c ?q7_k (fun _ _ _ _ _ _ us hl => match us, hl with | [_], _ => rfl),
      d_check_words := FK.at_mk KX G ?q8_a ?q8_l ?q8_c ?q8_k (fun _ _ _ _ _ _ us hl => match us, hl with | [_], _ => rfl),
      d_in_order := FK.at_mk KX G ?q9_a ?q9_l ?q9_c ?q9_k (fun _ _ _ _ _ _ us hl => match us, hl with | [_], _ => rfl),
      d_sine_ratio := FK.at_mk KX G ?q10_a ?q10_l ?q10_c ?q10_k (fun _ _ _ _ _ _ us hl => match us, hl with | [_, _, _], _ => rfl),
      d_bend_of := FK.at_mk KX G ?q11_a ?q11_l ?q11_c ?q11_k (fun _ _ _ _ _ _ us hl => match us, hl with | [_, _], _ => rfl),
      d_scale_for := FK.at_mk KX G ?q12_a ?q12_l ?q12_c ?q12_k (fun _ _ _ _ _ _ us hl => match us, hl with | [_, _], _ => rfl),
      d_first_depths := FK.at_mk KX G ?q13_a ?q13_l ?q13_c ?q13_k (fun _ _ _ _ _ _ us hl => match us, hl with | [_], _ => rfl),
      d_depths_behind := FK.at_mk KX G ?q14_a ?q14_l ?q14_c ?q14_k (fun _ _ _ _ _ _ us hl => match us, hl with | [_, _, _], _ => rfl),
      d_depths_of := FK.at_mk KX G ?q15_a ?q15_l ?q15_c ?q15_k (fun _ _ _ _ _ _ us hl => match us, hl with | [_, _], _ => rfl),
      d_far_letters := FK.at_mk KX G ?q16_a ?q16_l ?q16_c ?q16_k (fun _ _ _ _ _ _ us hl => match us, hl with | [_], _ => rfl),
      d_first_far := FK.at_mk KX G ?q17_a ?q17_l ?q17_c ?q17_k (fun _ _ _ _ _ _ us hl => match us, hl with | [_], _ => rfl),
      d_first_root := FK.at_mk KX G ?q18_a ?q18_l ?q18_c ?q18_k (fun _ _ _ _ _ _ us hl => match us, hl with | [_, _], _ => rfl),
      d_root_behind := FK.at_mk KX G ?q19_a ?q19_l ?q19_c ?q19_k (fun _ _ _ _ _ _ us hl => match us, hl with | [_, _, _], _ => rfl),
      d_place_crossing := FK.at_mk KX G ?q20_a ?q20_l ?q20_c ?q20_k (fun _ _ _ _ _ _ us hl => match us, hl with | [_, _, _], _ => rfl),
      d_Floor_init := FK.iat_mk ?q21_mk ?q21_a ?q21_i ?q21_kc ?q21_l ?q21_c ?q21_k (fun _ _ _ _ _ _ us hl => match us, hl with | [_, _], _ => rfl),
      d_Floor_scale := FK.mat_mk ?q22_a ?q22_i ?q22_l ?q22_c ?q22_k (fun _ _ _ _ _ _ us hl => match us, hl with | [_, _], _ => rfl),
      d_Floor_normal := FK.mat_mk ?q23_a ?q23_i ?q23_l ?q23_c ?q23_k (fun _ _ _ _ _ _ us hl => match us, hl with | [_, _], _ => rfl),
      d_Floor_ends := FK.mat_mk ?q24_a ?q24_i ?q24_l ?q24_c ?q24_k (fun _ _ _ _ _ _ us hl => match us, hl with | [_, _], _ => rfl),
      d_Floor_left_out := FK.mat_mk ?q25_a ?q25_i ?q25_l ?q25_c ?q25_k (fun _ _ _ _ _ _ us hl => match us, hl with | [_, _, _], _ => rfl),
      d_Floor_below := FK.mat_mk ?q26_a ?q26_i ?q26_l ?q26_c ?q26_k (fun _ _ _ _ _ _ us hl => match us, hl with | [_, _, _], _ => rfl),
      d_way_between := FK.at_mk KX G ?q27_a ?q27_l ?q27_c ?q27_k (fun _ _ _ _ _ _ us hl => match us, hl with | [_, _, _], _ => rfl),
      d_distance := FK.at_mk KX G ?q28_a ?q28_l ?q28_c ?q28_k (fun _ _ _ _ _ _ us hl => match us, hl with | [_, _, _], _ => rfl),
      d_numbers_below := FK.at_mk KX G ?q29_a ?q29_l ?q29_c ?q29_k (fun _ _ _ _ _ _ us hl => match us, hl with | [_, _], _ => rfl),
      d_count_ways := FK.at_mk KX G ?q30_a ?q30_l ?q30_c ?q30_k (fun _ _ _ _ _ _ us hl => match us, hl with | [_, _, _], _ => rfl),
      d_tiles_nearer := FK.at_mk KX G ?q31_a ?q31_l ?q31_c ?q31_k (fun _ _ _ _ _ _ us hl => match us, hl with | [_, _], _ => rfl),
      d_between := FK.at_mk KX G ?q32_a ?q32_l ?q32_c ?q32_k (fun _ _ _ _ _ _ us hl => match us, hl with | [_, _, _], _ => rfl),
      d_is_between := FK.at_mk KX G ?q33_a ?q33_l ?q33_c ?q33_k (fun _ _ _ _ _ _ us hl => match us, hl with | [_, _, _, _], _ => rfl),
      d_Tiles_init := FK.iat_mk ?q34_mk ?q34_a ?q34_i ?q34_kc ?q34_l ?q34_c ?q34_k (fun _ _ _ _ _ _ us hl => match us, hl with | [_, _], _ => rfl),
      d_Tiles_normal := FK.mat_mk ?q35_a ?q35_i ?q35_l ?q35_c ?q35_k (fun _ _ _ _ _ _ us hl => match us, hl with | [_, _], _ => rfl),
      d_Tiles_remembered := FK.mat_mk ?q36_a ?q36_i ?q36_l ?q36_c ?q36_k (fun _ _ _ _ _ _ us hl => match us, hl with | [_, _], _ => rfl),
      d_law_number := FK.at_mk KX G ?q37_a ?q37_l ?q37_c ?q37_k (fun _ _ _ _ _ _ us hl => match us, hl with | [_], _ => rfl),
      d_law_draws := FK.at_mk KX G ?q38_a ?q38_l ?q38_c ?q38_k (fun _ _ _ _ _ _ us hl => match us, hl with | [_], _ => rfl),
      d_law_next := FK.at_mk KX G ?q39_a ?q39_l ?q39_c ?q39_k (fun _ _ _ _ _ _ us hl => match us, hl with | [_], _ => rfl),
      d_law_orders := FK.at_mk KX G ?q40_a ?q40_l ?q40_c ?q40_k (fun _ _ _ _ _ _ us hl => match us, hl with | [_], _ => rfl),
      d_law_word := FK.at_mk KX G ?q41_a ?q41_l ?q41_c ?q41_k (fun _ _ _ _ _ _ us hl => match us, hl with | [_, _], _ => rfl),
      d_law_sorted := FK.at_mk KX G ?q42_a ?q42_l ?q42_c ?q42_k (fun _ _ _ _ _ _ us hl => match us, hl with | [_], _ => rfl),
      d_law_kind := FK.at_mk KX G ?q43_a ?q43_l ?q43_c ?q43_k (fun _ _ _ _ _ _ us hl => match us, hl with | [_], _ => rfl),
      d_law_apart := FK.at_mk KX G ?q44_a ?q44_l ?q44_c ?q44_k (fun _ _ _ _ _ _ us hl => match us, hl with | [_, _, _], _ => rfl),
      d_law_all := FK.at_mk KX G ?q45_a ?q45_l ?q45_c ?q45_k (fun _ _ _ _ _ _ us hl => match us, hl with | [_, _, _], _ => rfl),
      d_law_numbers := FK.at_mk KX G ?q46_a ?q46_l ?q46_c ?q46_k (fun _ _ _ _ _ _ us hl => match us, hl with | [_, _], _ => rfl),
      d_law_told := FK.at_mk KX G ?q47_a ?q47_l ?q47_c ?q47_k (fun _ _ _ _ _ _ us hl => match us, hl with | [_, _, _], _ => rfl),
      d_law := FK.at_mk KX G ?q48_a ?q48_l ?q48_c ?q48_k (fun _ _ _ _ _ _ us hl => match us, hl with | [_], _ => rfl),
      g_Floor := PySem.W.mg_of KX G ?q49_a,
      cl_Floor := ⟨?q50_pg, ?q50_hd, ?q50_po, ?q50_sa⟩,
      nF_Floor_orders := FK.noattr_mk ?q51_a,
      nF_Floor_scales := FK.noattr_mk ?q52_a,
      g_Tiles := PySem.W.mg_of KX G ?q53_a,
      cl_Tiles := ⟨?q54_pg, ?q54_hd, ?q54_po, ?q54_sa⟩,
      nF_Tiles_floor := FK.noattr_mk ?q55_a,
      nF_Tiles_normals := FK.noattr_mk ?q56_a,
      n_all := PySem.W.mg_none_of KX G ?q57_a,
      n_bool := PySem.W.mg_none_of KX G ?q58_a,
      n_int := PySem.W.mg_none_of KX G ?q59_a,
      n_isinstance := PySem.W.mg_none_of KX G ?q60_a,
      n_len := PySem.W.mg_none_of KX G ?q61_a,
      n_list := PySem.W.mg_none_of KX G ?q62_a,
      n_range := PySem.W.mg_none_of KX G ?q63_a,
      n_sorted := PySem.W.mg_none_of KX G ?q64_a,
      n_sum := PySem.W.mg_none_of KX G ?q65_a,
      n_tuple := PySem.W.mg_none_of KX G ?q66_a,
      n_zip := PySem.W.mg_none_of KX G ?q67_a,
      x_FoldError := FK.xc_mk KX G ?q68_a ?q68_k ?q68_x ?q68_b ?q68_t ?q68_c ?q68_e1 ?q68_e2 ?q68_e4 ?q68_e5 ?q68_e6 ?q68_e7 ?q68_e8,
      x_NotOrders := FK.xc_mk KX G ?q69_a ?q69_k ?q69_x ?q69_b ?q69_t ?q69_c ?q69_e1 ?q69_e2 ?q69_e4 ?q69_e5 ?q69_e6 ?q69_e7 ?q69_e8,
      x_NotWord := FK.xc_mk KX G ?q70_a ?q70_k ?q70_x ?q70_b ?q70_t ?q70_c ?q70_e1 ?q70_e2 ?q70_e4 ?q70_e5 ?q70_e6 ?q70_e7 ?q70_e8,
      x_TooLarge := FK.xc_mk KX G ?q71_a ?q71_k ?q71_x ?q71_b ?q71_t ?q71_c ?q71_e1 ?q71_e2 ?q71_e4 ?q71_e5 ?q71_e6 ?q71_e7 ?q71_e8,
      x_NoAnswer := FK.xc_mk KX G ?q72_a ?q72_k ?q72_x ?q72_b ?q72_t ?q72_c ?q72_e1 ?q72_e2 ?q72_e4 ?q72_e5 ?q72_e6 ?q72_e7 ?q72_e8,
      c_LETTERS := PySem.W.mg_of KX G ?q73_a,
      c_MOST_LETTERS := PySem.W.mg_of KX G ?q74_a,
      c_GUARD := PySem.W.mg_of KX G ?q75_a,
      c_SIZE := PySem.W.mg_of KX G ?q76_a,
      c_MOST_BETWEEN := PySem.W.mg_of KX G ?q77_a,
      c_MOST_REMEMBERED := PySem.W.mg_of KX G ?q78_a,
      exm_NotOrders := PySem.W.exm_ref ?q79_a ?q79_b ?q79_c ?q79_d,
      kit_NotOrders_NotOrders := FK.kit_same,
      kit_NotOrders_NotWord := FK.kit_mk ?q81_rfl ?q81_a ?q81_b ?q81_c,
      kit_NotOrders_NoAnswer := FK.kit_mk ?q82_rfl ?q82_a ?q82_b ?q82_c,
      kit_NotOrders_TooLarge := FK.kit_mk ?q83_rfl ?q83_a ?q83_b ?q83_c,
      kit_NotOrders_FoldError := FK.kit_mk ?q84_rfl ?q84_a ?q84_b ?q84_c,
      exm_NotWord := PySem.W.exm_ref ?q85_a ?q85_b ?q85_c ?q85_d,
      kit_NotWord_NotOrders := FK.kit_mk ?q86_rfl ?q86_a ?q86_b ?q86_c,
      kit_NotWord_NotWord := FK.kit_same,
      kit_NotWord_NoAnswer := FK.kit_mk ?q88_rfl ?q88_a ?q88_b ?q88_c,
      kit_NotWord_TooLarge := FK.kit_mk ?q89_rfl ?q89_a ?q89_b ?q89_c,
      kit_NotWord_FoldError := FK.kit_mk ?q90_rfl ?q90_a ?q90_b ?q90_c,
      exm_NoAnswer := PySem.W.exm_ref ?q91_a ?q91_b ?q91_c ?q91_d,
      kit_NoAnswer_NotOrders := FK.kit_mk ?q92_rfl ?q92_a ?q92_b ?q92_c,
      kit_NoAnswer_NotWord := FK.kit_mk ?q93_rfl ?q93_a ?q93_b ?q93_c,
      kit_NoAnswer_NoAnswer := FK.kit_same,
      kit_NoAnswer_TooLarge := FK.kit_mk ?q95_rfl ?q95_a ?q95_b ?q95_c,
      kit_NoAnswer_FoldError := FK.kit_mk ?q96_rfl ?q96_a ?q96_b ?q96_c }
    (case q49_a => k_is)
    (case q53_a => k_is)
    (case q1_a => k_is)
    (case q1_l => k_is)
    (case q1_c => k_is)
    (case q1_k => k_is)
    (case q2_a => k_is)
    (case q2_l => k_is)
    (case q2_c => k_is)
    (case q2_k => k_is)
    (case q3_a => k_is)
    (case q3_l => k_is)
    (case q3_c => k_is)
    (case q3_k => k_is)
    (case q4_a => k_is)
    (case q4_l => k_is)
    (case q4_c => k_is)
    (case q4_k => k_is)
    (case q5_a => k_is)
    (case q5_l => k_is)
    (case q5_c => k_is)
    (case q5_k => k_is)
    (case q6_a => k_is)
    (case q6_l => k_is)
    (case q6_c => k_is)
    (case q6_k => k_is)
    (case q7_a => k_is)
    (case q7_l => k_is)
    (case q7_c => k_is)
    (case q7_k => k_is)
    (case q8_a => k_is)
    (case q8_l => k_is)
    (case q8_c => k_is)
    (case q8_k => k_is)
    (case q9_a => k_is)
    (case q9_l => k_is)
    (case q9_c => k_is)
    (case q9_k => k_is)
    (case q10_a => k_is)
    (case q10_l => k_is)
    (case q10_c => k_is)
    (case q10_k => k_is)
    (case q11_a => k_is)
    (case q11_l => k_is)
    (case q11_c => k_is)
    (case q11_k => k_is)
    (case q12_a => k_is)
    (case q12_l => k_is)
    (case q12_c => k_is)
    (case q12_k => k_is)
    (case q13_a => k_is)
    (case q13_l => k_is)
    (case q13_c => k_is)
    (case q13_k => k_is)
    (case q14_a => k_is)
    (case q14_l => k_is)
    (case q14_c => k_is)
    (case q14_k => k_is)
    (case q15_a => k_is)
    (case q15_l => k_is)
    (case q15_c => k_is)
    (case q15_k => k_is)
    (case q16_a => k_is)
    (case q16_l => k_is)
    (case q16_c => k_is)
    (case q16_k => k_is)
    (case q17_a => k_is)
    (case q17_l => k_is)
    (case q17_c => k_is)
    (case q17_k => k_is)
    (case q18_a => k_is)
    (case q18_l => k_is)
    (case q18_c => k_is)
    (case q18_k => k_is)
    (case q19_a => k_is)
    (case q19_l => k_is)
    (case q19_c => k_is)
    (case q19_k => k_is)
    (case q20_a => k_is)
    (case q20_l => k_is)
    (case q20_c => k_is)
    (case q20_k => k_is)
    (case q21_mk => (try dsimp only); k_is)
    (case q21_a => (try dsimp only); k_is)
    (case q21_i => (try dsimp only); k_is)
    (case q21_kc => (try dsimp only); k_is)
    (case q21_l => (try dsimp only); k_is)
    (case q21_c => (try dsimp only); k_is)
    (case q21_k => (try dsimp only); k_is)
    (case q22_a => (try dsimp only); k_is)
    (case q22_i => (try dsimp only); k_is)
    (case q22_l => (try dsimp only); k_is)
    (case q22_c => (try dsimp only); k_is)
    (case q22_k => (try dsimp only); k_is)
    (case q23_a => (try dsimp only); k_is)
    (case q23_i => (try dsimp only); k_is)
    (case q23_l => (try dsimp only); k_is)
    (case q23_c => (try dsimp only); k_is)
    (case q23_k => (try dsimp only); k_is)
    (case q24_a => (try dsimp only); k_is)
    (case q24_i => (try dsimp only); k_is)
    (case q24_l => (try dsimp only); k_is)
    (case q24_c => (try dsimp only); k_is)
    (case q24_k => (try dsimp only); k_is)
    (case q25_a => (try dsimp only); k_is)
    (case q25_i => (try dsimp only); k_is)
    (case q25_l => (try dsimp only); k_is)
    (case q25_c => (try dsimp only); k_is)
    (case q25_k => (try dsimp only); k_is)
    (case q26_a => (try dsimp only); k_is)
    (case q26_i => (try dsimp only); k_is)
    (case q26_l => (try dsimp only); k_is)
    (case q26_c => (try dsimp only); k_is)
    (case q26_k => (try dsimp only); k_is)
    (case q27_a => k_is)
    (case q27_l => k_is)
    (case q27_c => k_is)
    (case q27_k => k_is)
    (case q28_a => k_is)
    (case q28_l => k_is)
    (case q28_c => k_is)
    (case q28_k => k_is)
    (case q29_a => k_is)
    (case q29_l => k_is)
    (case q29_c => k_is)
    (case q29_k => k_is)
    (case q30_a => k_is)
    (case q30_l => k_is)
    (case q30_c => k_is)
    (case q30_k => k_is)
    (case q31_a => k_is)
    (case q31_l => k_is)
    (case q31_c => k_is)
    (case q31_k => k_is)
    (case q32_a => k_is)
    (case q32_l => k_is)
    (case q32_c => k_is)
    (case q32_k => k_is)
    (case q33_a => k_is)
    (case q33_l => k_is)
    (case q33_c => k_is)
    (case q33_k => k_is)
    (case q34_mk => (try dsimp only); k_is)
    (case q34_a => (try dsimp only); k_is)
    (case q34_i => (try dsimp only); k_is)
    (case q34_kc => (try dsimp only); k_is)
    (case q34_l => (try dsimp only); k_is)
    (case q34_c => (try dsimp only); k_is)
    (case q34_k => (try dsimp only); k_is)
    (case q35_a => (try dsimp only); k_is)
    (case q35_i => (try dsimp only); k_is)
    (case q35_l => (try dsimp only); k_is)
    (case q35_c => (try dsimp only); k_is)
    (case q35_k => (try dsimp only); k_is)
    (case q36_a => (try dsimp only); k_is)
    (case q36_i => (try dsimp only); k_is)
    (case q36_l => (try dsimp only); k_is)
    (case q36_c => (try dsimp only); k_is)
    (case q36_k => (try dsimp only); k_is)
    (case q37_a => k_is)
    (case q37_l => k_is)
    (case q37_c => k_is)
    (case q37_k => k_is)
    (case q38_a => k_is)
    (case q38_l => k_is)
    (case q38_c => k_is)
    (case q38_k => k_is)
    (case q39_a => k_is)
    (case q39_l => k_is)
    (case q39_c => k_is)
    (case q39_k => k_is)
    (case q40_a => k_is)
    (case q40_l => k_is)
    (case q40_c => k_is)
    (case q40_k => k_is)
    (case q41_a => k_is)
    (case q41_l => k_is)
    (case q41_c => k_is)
    (case q41_k => k_is)
    (case q42_a => k_is)
    (case q42_l => k_is)
    (case q42_c => k_is)
    (case q42_k => k_is)
    (case q43_a => k_is)
    (case q43_l => k_is)
    (case q43_c => k_is)
    (case q43_k => k_is)
    (case q44_a => k_is)
    (case q44_l => k_is)
    (case q44_c => k_is)
    (case q44_k => k_is)
    (case q45_a => k_is)
    (case q45_l => k_is)
    (case q45_c => k_is)
    (case q45_k => k_is)
    (case q46_a => k_is)
    (case q46_l => k_is)
    (case q46_c => k_is)
    (case q46_k => k_is)
    (case q47_a => k_is)
    (case q47_l => k_is)
    (case q47_c => k_is)
    (case q47_k => k_is)
    (case q48_a => k_is)
    (case q48_l => k_is)
    (case q48_c => k_is)
    (case q48_k => k_is)
    (case q50_pg => (try dsimp only); k_is)
    (case q50_hd => (try dsimp only); k_is)
    (case q50_po => (try dsimp only); k_is)
    (case q50_sa => (try dsimp only); k_is)
    (case q51_a => (try dsimp only); k_is)
    (case q52_a => (try dsimp only); k_is)
    (case q54_pg => (try dsimp only); k_is)
    (case q54_hd => (try dsimp only); k_is)
    (case q54_po => (try dsimp only); k_is)
    (case q54_sa => (try dsimp only); k_is)
    (case q55_a => (try dsimp only); k_is)
    (case q56_a => (try dsimp only); k_is)
    (case q57_a => (try dsimp only); k_is)
    (case q58_a => (try dsimp only); k_is)
    (case q59_a => (try dsimp only); k_is)
    (case q60_a => (try dsimp only); k_is)
    (case q61_a => (try dsimp only); k_is)
    (case q62_a => (try dsimp only); k_is)
    (case q63_a => (try dsimp only); k_is)
    (case q64_a => (try dsimp only); k_is)
    (case q65_a => (try dsimp only); k_is)
    (case q66_a => (try dsimp only); k_is)
    (case q67_a => (try dsimp only); k_is)
    (case q68_a => (try dsimp only); k_is)
    (case q68_k => (try dsimp only); k_is)
    (case q68_x => (try dsimp only); k_exc)
    (case q68_b => (try dsimp only); k_is)
    (case q68_t => (try dsimp only); k_is)
    (case q68_c => (try dsimp only); k_is)
    (case q68_e1 => (try dsimp only); k_is)
    (case q68_e2 => (try dsimp only); k_is)
    (case q68_e4 => (try dsimp only); k_is)
    (case q68_e5 => (try dsimp only); k_is)
    (case q68_e6 => (try dsimp only); k_is)
    (case q68_e7 => (try dsimp only); k_is)
    (case q68_e8 => (try dsimp only); k_is)
    (case q69_a => (try dsimp only); k_is)
    (case q69_k => (try dsimp only); k_is)
    (case q69_x => (try dsimp only); k_exc)
    (case q69_b => (try dsimp only); k_is)
    (case q69_t => (try dsimp only); k_is)
    (case q69_c => (try dsimp only); k_is)
    (case q69_e1 => (try dsimp only); k_is)
    (case q69_e2 => (try dsimp only); k_is)
    (case q69_e4 => (try dsimp only); k_is)
    (case q69_e5 => (try dsimp only); k_is)
    (case q69_e6 => (try dsimp only); k_is)
    (case q69_e7 => (try dsimp only); k_is)
    (case q69_e8 => (try dsimp only); k_is)
    (case q70_a => (try dsimp only); k_is)
    (case q70_k => (try dsimp only); k_is)
    (case q70_x => (try dsimp only); k_exc)
    (case q70_b => (try dsimp only); k_is)
    (case q70_t => (try dsimp only); k_is)
    (case q70_c => (try dsimp only); k_is)
    (case q70_e1 => (try dsimp only); k_is)
    (case q70_e2 => (try dsimp only); k_is)
    (case q70_e4 => (try dsimp only); k_is)
    (case q70_e5 => (try dsimp only); k_is)
    (case q70_e6 => (try dsimp only); k_is)
    (case q70_e7 => (try dsimp only); k_is)
    (case q70_e8 => (try dsimp only); k_is)
    (case q71_a => (try dsimp only); k_is)
    (case q71_k => (try dsimp only); k_is)
    (case q71_x => (try dsimp only); k_exc)
    (case q71_b => (try dsimp only); k_is)
    (case q71_t => (try dsimp only); k_is)
    (case q71_c => (try dsimp only); k_is)
    (case q71_e1 => (try dsimp only); k_is)
    (case q71_e2 => (try dsimp only); k_is)
    (case q71_e4 => (try dsimp only); k_is)
    (case q71_e5 => (try dsimp only); k_is)
    (case q71_e6 => (try dsimp only); k_is)
    (case q71_e7 => (try dsimp only); k_is)
    (case q71_e8 => (try dsimp only); k_is)
    (case q72_a => (try dsimp only); k_is)
    (case q72_k => (try dsimp only); k_is)
    (case q72_x => (try dsimp only); k_exc)
    (case q72_b => (try dsimp only); k_is)
    (case q72_t => (try dsimp only); k_is)
    (case q72_c => (try dsimp only); k_is)
    (case q72_e1 => (try dsimp only); k_is)
    (case q72_e2 => (try dsimp only); k_is)
    (case q72_e4 => (try dsimp only); k_is)
    (case q72_e5 => (try dsimp only); k_is)
    (case q72_e6 => (try dsimp only); k_is)
    (case q72_e7 => (try dsimp only); k_is)
    (case q72_e8 => (try dsimp only); k_is)
    (case q73_a => (try dsimp only); k_is)
    (case q74_a => (try dsimp only); k_is)
    (case q75_a => (try dsimp only); k_is)
    (case q76_a => (try dsimp only); k_is)
    (case q77_a => (try dsimp only); k_is)
    (case q78_a => (try dsimp only); k_is)
    (case q79_a => (try dsimp only); k_is)
    (case q79_b => (try dsimp only); k_is)
    (case q79_c => (try dsimp only); k_is)
    (case q79_d => (try dsimp only); k_is)
    (case q81_rfl => dsimp only; decide)
    (case q81_a => (try dsimp only); k_is)
    (case q81_b => (try dsimp only); k_is)
    (case q81_c => (try dsimp only); k_is)
    (case q82_rfl => dsimp only; decide)
    (case q82_a => (try dsimp only); k_is)
    (case q82_b => (try dsimp only); k_is)
    (case q82_c => (try dsimp only); k_is)
    (case q83_rfl => dsimp only; decide)
    (case q83_a => (try dsimp only); k_is)
    (case q83_b => (try dsimp only); k_is)
    (case q83_c => (try dsimp only); k_is)
    (case q84_rfl => dsimp only; decide)
    (case q84_a => (try dsimp only); k_is)
    (case q84_b => (try dsimp only); k_is)
    (case q84_c => (try dsimp only); k_is)
    (case q85_a => (try dsimp only); k_is)
    (case q85_b => (try dsimp only); k_is)
    (case q85_c => (try dsimp only); k_is)
    (case q85_d => (try dsimp only); k_is)
    (case q86_rfl => dsimp only; decide)
    (case q86_a => (try dsimp only); k_is)
    (case q86_b => (try dsimp only); k_is)
    (case q86_c => (try dsimp only); k_is)
    (case q88_rfl => dsimp only; decide)
    (case q88_a => (try dsimp only); k_is)
    (case q88_b => (try dsimp only); k_is)
    (case q88_c => (try dsimp only); k_is)
    (case q89_rfl => dsimp only; decide)
    (case q89_a => (try dsimp only); k_is)
    (case q89_b => (try dsimp only); k_is)
    (case q89_c => (try dsimp only); k_is)
    (case q90_rfl => dsimp only; decide)
    (case q90_a => (try dsimp only); k_is)
    (case q90_b => (try dsimp only); k_is)
    (case q90_c => (try dsimp only); k_is)
    (case q91_a => (try dsimp only); k_is)
    (case q91_b => (try dsimp only); k_is)
    (case q91_c => (try dsimp only); k_is)
    (case q91_d => (try dsimp only); k_is)
    (case q92_rfl => dsimp only; decide)
    (case q92_a => (try dsimp only); k_is)
    (case q92_b => (try dsimp only); k_is)
    (case q92_c => (try dsimp only); k_is)
    (case q93_rfl => dsimp only; decide)
    (case q93_a => (try dsimp only); k_is)
    (case q93_b => (try dsimp only); k_is)
    (case q93_c => (try dsimp only); k_is)
    (case q95_rfl => dsimp only; decide)
    (case q95_a => (try dsimp only); k_is)
    (case q95_b => (try dsimp only); k_is)
    (case q95_c => (try dsimp only); k_is)
    (case q96_rfl => dsimp only; decide)
    (case q96_a => (try dsimp only); k_is)
    (case q96_b => (try dsimp only); k_is)
    (case q96_c => (try dsimp only); k_is)
#print axioms PySem.Challenge.cw_foldfloor_k19_distances_and_tiles_betwee_holds

