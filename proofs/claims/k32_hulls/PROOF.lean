import PyProof.Rows.All
import Wide.All
import OpenK.AllK
import Wide.FinOn
import PyProof.EqAt
import PyProof.EqKinds
import PyProof.TupleCall
import PyProof.ReprRoads
import HandS.ForMost
import HandS.Exc
import HandS.TryOnly
import HandS.ExcOwn
import HandS.WordsExc
import HandS.IsInst
import HandS.ExcIs
import HandS.FStr
import HandS.RaiseMore
import HandS.Wide
import HandS.Zip
import HandS.NoneIn
import HandS.Codes
import HandS.Gcd
import HandS.EndBits
import HandS.Walk
import HandS.Style
import KE.GoesMore
import KE.GoesZip
import PyProof.StrOps2
import HandS.HotCalls
import KE.KSortKeySt
import PyProof.Rows.SortShellAny
import HandS.SortKw
import HandS.SortInts
import HandS.SortRule
import HandS.Keys
import HandS.DictComp
import HandS.TryMany
import HandS.Conv
import PyProof.ReprLen
import PyProof.EqLayable
import HandS.Deep
import HandS.WideBits
import PySem.Challenge.RW_foldfloor_k32_hulls
set_option Elab.async false
set_option linter.all false
set_option maxRecDepth 100000
set_option maxHeartbeats 8000000
/-! Words of three letters, turns and cuts: what leads where, lengths, parities. -/
namespace Cox
abbrev W := List (Fin 3)
/-- two letters in turns -/
def alt (i j : Fin 3) : Nat → W
  | 0 => []
  | n + 1 => i :: alt j i n
theorem alt_length (i j : Fin 3) (n : Nat) : (alt i j n).length = n := by
  induction n generalizing i j with
  | zero => rfl
  | succ n ih => rw [alt, List.length_cons, ih]
/-- the n-th letter in turns -/
def nth (i j : Fin 3) (n : Nat) : Fin 3 := if n % 2 = 0 then i else j
theorem nth_succ (i j : Fin 3) (n : Nat) : nth i j (n + 1) = nth j i n := by
  unfold nth
  by_cases h : n % 2 = 0
  · rw [if_pos h, if_neg (by omega)]
  · rw [if_neg h, if_pos (by omega)]
theorem alt_snoc (i j : Fin 3) (n : Nat) : alt i j (n + 1) = alt i j n ++ [nth i j n] := by
  induction n generalizing i j with
  | zero => rfl
  | succ n ih =>
    show i :: alt j i (n + 1) = i :: alt j i n ++ [nth i j (n + 1)]
    rw [ih, nth_succ]
    rfl
theorem alt_reverse (i j : Fin 3) (n : Nat) : (alt i j n).reverse = if n % 2 = 0 then alt j i n else alt i j n := by
  induction n generalizing i j with
  | zero => rfl
  | succ n ih =>
    have e : (alt i j (n + 1)).reverse = nth i j n :: (alt i j n).reverse := by
      rw [alt_snoc, List.reverse_append]
      rfl
    rw [e, ih]
    by_cases h : n % 2 = 0
    · rw [if_pos h, if_neg (by omega), nth, if_pos h]
      rfl
    · rw [if_neg h, if_pos (by omega), nth, if_neg h]
      rfl
section
variable (m : Fin 3 → Fin 3 → Nat)
/-- a cut or a turn -/
inductive Step : W → W → Prop
  | cut (u v : W) (i : Fin 3) : Step (u ++ i :: i :: v) (u ++ v)
  | turn (u v : W) (i j : Fin 3) (h : i ≠ j) (h0 : m i j ≠ 0) : Step (u ++ (alt i j (m i j) ++ v)) (u ++ (alt j i (m i j) ++ v))
/-- they lead to the same tile -/
inductive Eqv : W → W → Prop
  | refl (u : W) : Eqv u u
  | step {u v : W} : Step m u v → Eqv u v
  | symm {u v : W} : Eqv u v → Eqv v u
  | trans {u v w : W} : Eqv u v → Eqv v w → Eqv u w
end
variable {m : Fin 3 → Fin 3 → Nat}
theorem Step.app {u v : W} (h : Step m u v) (x y : W) : Step m (x ++ u ++ y) (x ++ v ++ y) := by
  cases h with
  | cut u v i =>
    have := Step.cut (m := m) (x ++ u) (v ++ y) i
    simpa using this
  | turn u v i j h h0 =>
    have := Step.turn (m := m) (x ++ u) (v ++ y) i j h h0
    simpa using this
theorem Eqv.app {u v : W} (h : Eqv m u v) (x y : W) : Eqv m (x ++ u ++ y) (x ++ v ++ y) := by
  induction h with
  | refl u => exact .refl _
  | step h => exact .step (h.app x y)
  | symm _ ih => exact ih.symm
  | trans _ _ ih1 ih2 => exact ih1.trans ih2
theorem Eqv.left {u v : W} (h : Eqv m u v) (x : W) : Eqv m (x ++ u) (x ++ v) := by
  have := h.app x []
  rwa [List.append_nil, List.append_nil] at this
theorem Eqv.right {u v : W} (h : Eqv m u v) (y : W) : Eqv m (u ++ y) (v ++ y) := h.app [] y
theorem Eqv.mul {u v x y : W} (h : Eqv m u v) (k : Eqv m x y) : Eqv m (u ++ x) (v ++ y) := (h.right x).trans (k.left v)
theorem Eqv.parity {u v : W} (h : Eqv m u v) : u.length % 2 = v.length % 2 := by
  induction h with
  | refl u => rfl
  | step h =>
    cases h with
    | cut u v i => simp only [List.length_append, List.length_cons]; omega
    | turn u v i j h h0 => simp only [List.length_append, alt_length]
  | symm _ ih => exact ih.symm
  | trans _ _ ih1 ih2 => exact ih1.trans ih2
theorem Eqv.cancel (i : Fin 3) : Eqv m [i, i] [] := .step (.cut [] [] i)
theorem Eqv.inv_right (u : W) : Eqv m (u ++ u.reverse) [] := by
  induction u with
  | nil => exact .refl _
  | cons i u ih =>
    rw [List.reverse_cons]
    have h := ih.app [i] [i]
    have h2 : Eqv m ([i] ++ [] ++ [i]) [] := .cancel i
    have e : i :: u ++ (u.reverse ++ [i]) = [i] ++ (u ++ u.reverse) ++ [i] := by simp
    rw [e]
    exact h.trans h2
theorem Eqv.inv_left (u : W) : Eqv m (u.reverse ++ u) [] := by
  have := Eqv.inv_right (m := m) u.reverse
  rwa [List.reverse_reverse] at this
/-- inverses of what leads to the same tile do so -/
theorem Eqv.rev {u v : W} (h : Eqv m u v) : Eqv m u.reverse v.reverse := by
  have h1 : Eqv m (u.reverse ++ (v ++ v.reverse)) (u.reverse ++ []) := (Eqv.inv_right v).left _
  have h2 : Eqv m (u.reverse ++ u ++ v.reverse) (u.reverse ++ v ++ v.reverse) := h.app _ _
  have h3 : Eqv m (u.reverse ++ u ++ v.reverse) ([] ++ v.reverse) := (Eqv.inv_left u).right _
  rw [List.append_nil] at h1
  rw [← List.append_assoc] at h1
  exact h1.symm.trans (h2.symm.trans h3)
theorem Eqv.cancel_right {u v x : W} (h : Eqv m (u ++ x) (v ++ x)) : Eqv m u v := by
  have h1 := h.right x.reverse
  have e : ∀ z : W, Eqv m (z ++ x ++ x.reverse) z := fun z => by
    have := (Eqv.inv_right (m := m) x).left z
    rwa [List.append_nil, ← List.append_assoc] at this
  exact (e u).symm.trans (h1.trans (e v))
theorem Eqv.cancel_left {u v x : W} (h : Eqv m (x ++ u) (x ++ v)) : Eqv m u v := by
  have h1 := h.left x.reverse
  have e : ∀ z : W, Eqv m (x.reverse ++ (x ++ z)) z := fun z => by
    have := (Eqv.inv_left (m := m) x).right z
    rwa [List.append_assoc] at this
  exact (e u).symm.trans (h1.trans (e v))
/-! lengths of tiles -/
theorem least_ex (w : W) : ∃ n : Nat, (∃ u, Eqv m w u ∧ u.length = n) ∧ ∀ u, Eqv m w u → n ≤ u.length := by
  have : ∀ k : Nat, ∀ u, Eqv m w u → u.length ≤ k → ∃ n : Nat, (∃ u, Eqv m w u ∧ u.length = n) ∧ ∀ u, Eqv m w u → n ≤ u.length := by
    intro k
    induction k with
    | zero => exact fun u hu hl => ⟨0, ⟨u, hu, by omega⟩, fun _ _ => Nat.zero_le _⟩
    | succ k ih =>
      intro u hu hl
      by_cases c : ∃ v, Eqv m w v ∧ v.length ≤ k
      · obtain ⟨v, hv, hvl⟩ := c
        exact ih v hv hvl
      · refine ⟨k + 1, ⟨u, hu, ?_⟩, fun v hv => ?_⟩
        · have : ¬ u.length ≤ k := fun z => c ⟨u, hu, z⟩
          omega
        · have : ¬ v.length ≤ k := fun z => c ⟨v, hv, z⟩
          omega
  exact this w.length w (.refl w) (Nat.le_refl _)
noncomputable def ln (m : Fin 3 → Fin 3 → Nat) (w : W) : Nat := Classical.choose (least_ex (m := m) w)
theorem ln_ex (w : W) : ∃ u, Eqv m w u ∧ u.length = ln m w := (Classical.choose_spec (least_ex (m := m) w)).1
theorem ln_le {w u : W} (h : Eqv m w u) : ln m w ≤ u.length := (Classical.choose_spec (least_ex (m := m) w)).2 u h
theorem ln_self (w : W) : ln m w ≤ w.length := ln_le (.refl w)
theorem ln_eqv {w u : W} (h : Eqv m w u) : ln m w = ln m u := by
  obtain ⟨v, hv, h1⟩ := ln_ex (m := m) w
  obtain ⟨x, hx, h2⟩ := ln_ex (m := m) u
  have a := ln_le (h.trans hx)
  have b := ln_le (h.symm.trans hv)
  omega
/-- a shortest word -/
def Red (m : Fin 3 → Fin 3 → Nat) (w : W) : Prop := ln m w = w.length
theorem red_ex (w : W) : ∃ u, Eqv m w u ∧ Red m u := by
  obtain ⟨u, hu, h⟩ := ln_ex (m := m) w
  exact ⟨u, hu, by rw [Red, ← ln_eqv hu, h]⟩
theorem ln_parity (w : W) : ln m w % 2 = w.length % 2 := by
  obtain ⟨u, hu, h⟩ := ln_ex (m := m) w
  rw [← h, hu.parity]
theorem ln_append (u v : W) : ln m (u ++ v) ≤ ln m u + ln m v := by
  obtain ⟨x, hx, h1⟩ := ln_ex (m := m) u
  obtain ⟨y, hy, h2⟩ := ln_ex (m := m) v
  have := ln_le (hx.mul hy)
  rw [List.length_append] at this
  omega
theorem ln_reverse (w : W) : ln m w.reverse = ln m w := by
  have one : ∀ w : W, ln m w.reverse ≤ ln m w := fun w => by
    obtain ⟨u, hu, h⟩ := ln_ex (m := m) w
    have := ln_le hu.rev
    rw [List.length_reverse] at this
    omega
  have a := one w
  have b := one w.reverse
  rw [List.reverse_reverse] at b
  omega
theorem snoc_snoc (w : W) (i : Fin 3) : Eqv m (w ++ [i] ++ [i]) w := by
  have := (Eqv.cancel (m := m) i).left w
  rw [List.append_nil] at this
  rwa [List.append_assoc]
theorem ln_snoc (w : W) (i : Fin 3) : ln m (w ++ [i]) = ln m w + 1 ∨ ln m w = ln m (w ++ [i]) + 1 := by
  have a := ln_append (m := m) w [i]
  have b := ln_append (m := m) (w ++ [i]) [i]
  rw [ln_eqv (snoc_snoc w i)] at b
  have c : ln m [i] ≤ 1 := ln_self [i]
  have p := ln_parity (m := m) w
  have q := ln_parity (m := m) (w ++ [i])
  rw [List.length_append, List.length_singleton] at q
  omega
/-- parts of shortest words are shortest -/
theorem Red.part {u v : W} (h : Red m (u ++ v)) : Red m u ∧ Red m v := by
  have a := ln_append (m := m) u v
  have b := ln_self (m := m) u
  have c := ln_self (m := m) v
  unfold Red at *
  rw [h, List.length_append] at a
  omega
theorem red_snoc {w : W} {i : Fin 3} (h : Red m w) : Red m (w ++ [i]) ↔ ln m (w ++ [i]) = ln m w + 1 := by
  unfold Red at *
  rw [List.length_append, List.length_singleton, h]
end Cox

/-! Roots: how words act on triples, over any commutative ring; turns and cuts change nothing. -/
namespace Cox
open Lean.Grind
section
variable {R : Type} [CommRing R]
abbrev V3 (R : Type) := Fin 3 → R
def bump (i : Fin 3) (t : R) (v : V3 R) : V3 R := fun k => if k = i then v k + t else v k
def dot (c : Fin 3 → Fin 3 → R) (i : Fin 3) (v : V3 R) : R := c i 0 * v 0 + c i 1 * v 1 + c i 2 * v 2
def act (c : Fin 3 → Fin 3 → R) (i : Fin 3) (v : V3 R) : V3 R := bump i (dot c i v) v
/-- a word acts, its last letter first -/
def actw (c : Fin 3 → Fin 3 → R) (w : W) (v : V3 R) : V3 R := w.foldr (act c) v
theorem actw_append (c : Fin 3 → Fin 3 → R) (u w : W) (v : V3 R) : actw c (u ++ w) v = actw c u (actw c w v) := List.foldr_append
theorem dot_bump (c : Fin 3 → Fin 3 → R) (i j : Fin 3) (t : R) (v : V3 R) : dot c i (bump j t v) = dot c i v + c i j * t := by
  have h : j = 0 ∨ j = 1 ∨ j = 2 := by
    rcases j with ⟨j, hj⟩
    have : j = 0 ∨ j = 1 ∨ j = 2 := by omega
    rcases this with rfl | rfl | rfl
    · exact .inl rfl
    · exact .inr (.inl rfl)
    · exact .inr (.inr rfl)
  unfold dot bump
  rcases h with rfl | rfl | rfl
  · rw [if_pos rfl, if_neg (by decide), if_neg (by decide)]; grind
  · rw [if_neg (by decide), if_pos rfl, if_neg (by decide)]; grind
  · rw [if_neg (by decide), if_neg (by decide), if_pos rfl]; grind
theorem bump_bump (i : Fin 3) (s t : R) (v : V3 R) : bump i s (bump i t v) = bump i (t + s) v := by
  funext k
  unfold bump
  by_cases h : k = i
  · rw [if_pos h, if_pos h, if_pos h]; grind
  · rw [if_neg h, if_neg h, if_neg h]
theorem bump_comm {i j : Fin 3} (hij : i ≠ j) (s t : R) (v : V3 R) : bump i s (bump j t v) = bump j t (bump i s v) := by
  funext k
  unfold bump
  by_cases h : k = i
  · have h2 : k ≠ j := fun z => hij (h.symm.trans z)
    rw [if_pos h, if_neg h2, if_neg h2, if_pos h]
  · rw [if_neg h]
    by_cases h2 : k = j
    · rw [if_pos h2, if_pos h2, if_neg h]
    · rw [if_neg h2, if_neg h2, if_neg h]
theorem bump_zero (i : Fin 3) (v : V3 R) : bump i 0 v = v := by
  funext k
  unfold bump
  by_cases h : k = i
  · rw [if_pos h]; grind
  · rw [if_neg h]
variable {c : Fin 3 → Fin 3 → R}
theorem act_act (h2 : ∀ i, c i i = -2) (i : Fin 3) (v : V3 R) : act c i (act c i v) = v := by
  unfold act
  rw [dot_bump, h2, bump_bump]
  have : dot c i v + (dot c i v + -2 * dot c i v) = 0 := by grind
  rw [this, bump_zero]
/-- a multiple of the i-th and of the j-th put to it -/
def st (i j : Fin 3) (p q : R) (v : V3 R) : V3 R := bump i p (bump j q v)
theorem act_st1 (h2 : ∀ i, c i i = -2) {i j : Fin 3} (p q : R) (v : V3 R) : act c i (st i j p q v) = st i j (dot c i v - p + c i j * q) q v := by
  unfold act st
  rw [dot_bump, dot_bump, h2, bump_bump]
  congr 1
  grind
theorem act_st2 (h2 : ∀ i, c i i = -2) {i j : Fin 3} (hij : i ≠ j) (p q : R) (v : V3 R) : act c j (st i j p q v) = st i j p (dot c j v - q + c j i * p) v := by
  unfold st
  rw [bump_comm hij]
  have := act_st1 h2 (i := j) (j := i) q p v
  unfold st at this
  rw [this, bump_comm hij]
/-- U 0 = 1, U 1 = b, then b times the last one less the one before -/
def U (b : R) : Nat → R
  | 0 => 1
  | 1 => b
  | k + 2 => b * U b (k + 1) - U b k
/-- the coordinate that the k-th letter in turns makes -/
def zs (b x y : R) : Nat → R
  | 0 => 0
  | 1 => x
  | k + 2 => (if k % 2 = 0 then y else x) - zs b x y k + b * zs b x y (k + 1)
theorem zs_diff (b x y : R) : ∀ k : Nat, zs b x y (k + 1) = zs b y x k + U b k * x
  | 0 => by
    show x = 0 + 1 * x
    grind
  | 1 => by
    show (if 0 % 2 = 0 then y else x) - 0 + b * x = y + b * x
    rw [if_pos rfl]
    grind
  | k + 2 => by
    have h1 := zs_diff b x y k
    have h2 := zs_diff b x y (k + 1)
    show (if (k + 1) % 2 = 0 then y else x) - zs b x y (k + 1) + b * zs b x y (k + 2) = (if k % 2 = 0 then x else y) - zs b y x k + b * zs b y x (k + 1) + (b * U b (k + 1) - U b k) * x
    by_cases e : k % 2 = 0
    · rw [if_neg (by omega), if_pos e]
      grind
    · rw [if_pos (by omega), if_neg e]
      grind
/-- letters act, the first one first -/
def actl (c : Fin 3 → Fin 3 → R) (w : W) (v : V3 R) : V3 R := w.foldl (fun v i => act c i v) v
theorem actl_reverse (w : W) (v : V3 R) : actl c w.reverse v = actw c w v := by
  unfold actl actw
  rw [List.foldl_reverse]
theorem actl_alt (h2 : ∀ i, c i i = -2) (hs : ∀ i j, c i j = c j i) {i j : Fin 3} (hij : i ≠ j) (v : V3 R) : ∀ k : Nat, actl c (alt i j k) v = if k % 2 = 0 then st i j (zs (c i j) (dot c i v) (dot c j v) (k - 1)) (zs (c i j) (dot c i v) (dot c j v) k) v else st i j (zs (c i j) (dot c i v) (dot c j v) k) (zs (c i j) (dot c i v) (dot c j v) (k - 1)) v
  | 0 => by
    show v = st i j 0 0 v
    unfold st
    rw [bump_zero, bump_zero]
  | 1 => by
    show act c i v = st i j (dot c i v) 0 v
    unfold st
    rw [bump_zero]
    rfl
  | k + 2 => by
    have ih := actl_alt h2 hs hij v (k + 1)
    rw [alt_snoc]
    unfold actl at ih ⊢
    rw [List.foldl_append, ih]
    show act c (nth i j (k + 1)) _ = _
    by_cases e : k % 2 = 0
    · rw [if_neg (by omega), if_pos (by omega), nth, if_neg (by omega), act_st2 h2 hij]
      show st i j _ (dot c j v - zs _ _ _ k + c j i * zs _ _ _ (k + 1)) v = st i j _ ((if k % 2 = 0 then dot c j v else dot c i v) - zs _ _ _ k + c i j * zs _ _ _ (k + 1)) v
      rw [if_pos e, hs j i]
      rfl
    · rw [if_pos (by omega), if_neg (by omega), nth, if_pos (by omega), act_st1 h2]
      show st i j (dot c i v - zs _ _ _ k + c i j * zs _ _ _ (k + 1)) _ v = st i j ((if k % 2 = 0 then dot c j v else dot c i v) - zs _ _ _ k + c i j * zs _ _ _ (k + 1)) _ v
      rw [if_neg e]
      rfl
theorem st_comm {i j : Fin 3} (hij : i ≠ j) (p q : R) (v : V3 R) : st i j p q v = st j i q p v := bump_comm hij _ _ _
theorem braid (h2 : ∀ i, c i i = -2) (hs : ∀ i j, c i j = c j i) {i j : Fin 3} (hij : i ≠ j) (v : V3 R) {n : Nat} (hU : U (c i j) n = 0) : actl c (alt i j (n + 1)) v = actl c (alt j i (n + 1)) v := by
  rw [actl_alt h2 hs hij, actl_alt h2 hs hij.symm, hs j i]
  have e1 := zs_diff (c i j) (dot c i v) (dot c j v) n
  have e2 := zs_diff (c i j) (dot c j v) (dot c i v) n
  rw [hU] at e1 e2
  have e3 : zs (c i j) (dot c i v) (dot c j v) (n + 1) = zs (c i j) (dot c j v) (dot c i v) n := by rw [e1]; grind
  have e4 : zs (c i j) (dot c j v) (dot c i v) (n + 1) = zs (c i j) (dot c i v) (dot c j v) n := by rw [e2]; grind
  rw [Nat.add_sub_cancel]
  by_cases e : (n + 1) % 2 = 0
  · rw [if_pos e, if_pos e, st_comm hij, e3, e4]
  · rw [if_neg e, if_neg e, st_comm hij, e3, e4]
/-- what the numbers c are to the orders -/
structure Geo (m : Fin 3 → Fin 3 → Nat) (c : Fin 3 → Fin 3 → R) : Prop where
  two : ∀ i, c i i = -2
  sym : ∀ i j, c i j = c j i
  msym : ∀ i j, m i j = m j i
  zero : ∀ i j n, i ≠ j → m i j = n + 1 → U (c i j) n = 0
variable {m : Fin 3 → Fin 3 → Nat}
theorem Geo.step (G : Geo m c) {u w : W} (h : Step m u w) (v : V3 R) : actw c u v = actw c w v := by
  cases h with
  | cut u x i =>
    rw [actw_append, actw_append]
    show actw c u (act c i (act c i (actw c x v))) = _
    rw [act_act G.two]
  | turn u x i j h h0 =>
    rw [actw_append, actw_append, actw_append, actw_append]
    congr 1
    obtain ⟨n, hn⟩ : ∃ n, m i j = n + 1 := ⟨m i j - 1, by omega⟩
    have b := braid G.two G.sym h (actw c x v) (G.zero i j n h hn)
    have r1 : ∀ (w : W) (z : V3 R), actw c w z = actl c w.reverse z := fun w z => (actl_reverse w z).symm
    rw [r1 (alt i j _), r1 (alt j i _), alt_reverse, alt_reverse, hn]
    by_cases e : (n + 1) % 2 = 0
    · rw [if_pos e, if_pos e]
      exact b.symm
    · rw [if_neg e, if_neg e]
      exact b
theorem Geo.eqv (G : Geo m c) {u w : W} (h : Eqv m u w) (v : V3 R) : actw c u v = actw c w v := by
  induction h with
  | refl u => rfl
  | step h => exact G.step h v
  | symm _ ih => exact ih.symm
  | trans _ _ ih1 ih2 => exact ih1.trans ih2
/-- the root of a mirror of the first tile -/
def e (i : Fin 3) : V3 R := fun k => if k = i then 1 else 0
end
end Cox

/-! Over a linear ordered ring: behind a longer tile a root is positive. -/
namespace Cox
open Lean.Grind
section
variable {R : Type} [CommRing R]
def lc (p : R) (x : V3 R) (q : R) (y : V3 R) : V3 R := fun k => p * x k + q * y k
theorem act_lc (c : Fin 3 → Fin 3 → R) (i : Fin 3) (p q : R) (x y : V3 R) : act c i (lc p x q y) = lc p (act c i x) q (act c i y) := by
  funext k
  unfold act bump lc dot
  by_cases h : k = i
  · simp only [if_pos h]; grind
  · simp only [if_neg h]
theorem actw_lc (c : Fin 3 → Fin 3 → R) (w : W) (p q : R) (x y : V3 R) : actw c w (lc p x q y) = lc p (actw c w x) q (actw c w y) := by
  induction w with
  | nil => rfl
  | cons i w ih =>
    show act c i (actw c w _) = lc p (act c i (actw c w x)) q (act c i (actw c w y))
    rw [ih, act_lc]
/-- U, one earlier -/
def Up (b : R) : Nat → R
  | 0 => 0
  | k + 1 => U b k
theorem U_succ (b : R) : ∀ k : Nat, U b (k + 1) = b * U b k - Up b k
  | 0 => by show b = b * 1 - 0; grind
  | k + 1 => rfl
variable {m : Fin 3 → Fin 3 → Nat} {c : Fin 3 → Fin 3 → R}
/-- two letters in turns act on the root of the one -/
theorem actl_root (G : Geo m c) {s t : Fin 3} (hst : s ≠ t) : ∀ k : Nat, actl c (alt t s k) (e s) = if k % 2 = 0 then lc (U (c s t) k) (e s) (Up (c s t) k) (e t) else lc (Up (c s t) k) (e s) (U (c s t) k) (e t)
  | 0 => by
    show e s = lc 1 (e s) 0 (e t)
    funext k
    unfold lc
    grind
  | k + 1 => by
    have ih := actl_root G hst k
    have ds : ∀ i : Fin 3, act c i (e i) = fun k => if k = i then (-1 : R) else 0 := fun i => by
      funext k
      unfold act bump e dot
      have h3 : i = 0 ∨ i = 1 ∨ i = 2 := by
        rcases i with ⟨i, hi⟩
        have : i = 0 ∨ i = 1 ∨ i = 2 := by omega
        rcases this with rfl | rfl | rfl
        · exact .inl rfl
        · exact .inr (.inl rfl)
        · exact .inr (.inr rfl)
      have h2 := G.two i
      by_cases hk : k = i
      · subst hk
        rcases h3 with rfl | rfl | rfl <;> simp <;> grind
      · simp only [if_neg hk]
    have dt : ∀ i j : Fin 3, i ≠ j → act c i (e j) = fun k => if k = j then (1 : R) else if k = i then c i j else 0 := fun i j hij => by
      funext k
      unfold act bump e dot
      have h3 : j = 0 ∨ j = 1 ∨ j = 2 := by
        rcases j with ⟨j, hj⟩
        have : j = 0 ∨ j = 1 ∨ j = 2 := by omega
        rcases this with rfl | rfl | rfl
        · exact .inl rfl
        · exact .inr (.inl rfl)
        · exact .inr (.inr rfl)
      by_cases hk : k = i
      · have hkj : k ≠ j := fun z => hij (hk.symm.trans z)
        rw [if_pos hk, if_neg hkj, if_neg hkj, if_pos hk]
        rcases h3 with rfl | rfl | rfl <;> simp <;> grind
      · rw [if_neg hk]
        by_cases hkj : k = j
        · rw [if_pos hkj, if_pos hkj]
        · rw [if_neg hkj, if_neg hkj, if_neg hk]
    rw [alt_snoc]
    unfold actl at ih ⊢
    rw [List.foldl_append, ih]
    show act c (nth t s k) _ = _
    have us := U_succ (c s t) k
    by_cases h : k % 2 = 0
    · rw [if_pos h, if_neg (by omega), nth, if_pos h, act_lc, ds, dt t s hst.symm, us, G.sym t s]
      funext i
      unfold lc e
      show _ = Up (c s t) (k + 1) * _ + _
      by_cases hi : i = s
      · have hit : i ≠ t := fun z => hst (hi.symm.trans z)
        simp only [if_pos hi, if_neg hit]
        show _ = U (c s t) k * _ + _
        grind
      · by_cases hit : i = t
        · simp only [if_neg hi, if_pos hit]
          grind
        · simp only [if_neg hi, if_neg hit]
          grind
    · rw [if_neg h, if_pos (by omega), nth, if_neg h, act_lc, ds, dt s t hst, us]
      funext i
      unfold lc e
      show _ = _ + Up (c s t) (k + 1) * _
      by_cases hi : i = s
      · have hit : i ≠ t := fun z => hst (hi.symm.trans z)
        simp only [if_pos hi, if_neg hit]
        grind
      · by_cases hit : i = t
        · simp only [if_neg hi, if_pos hit]
          show _ = _ + U (c s t) k * _
          grind
        · simp only [if_neg hi, if_neg hit]
          grind
end
section
variable {R : Type} [CommRing R] [LE R] [LT R] [Std.LawfulOrderLT R] [Std.IsLinearOrder R] [OrderedRing R]
variable {m : Fin 3 → Fin 3 → Nat} {c : Fin 3 → Fin 3 → R}
/-- no coordinate is negative, their sum is at least 1 -/
def Big (v : V3 R) : Prop := (∀ k, 0 ≤ v k) ∧ 1 ≤ v 0 + v 1 + v 2
theorem Big.lc {p q : R} {x y : V3 R} (hp : 0 ≤ p) (hq : 0 ≤ q) (hpq : 1 ≤ p + q) (hx : Big x) (hy : Big y) : Big (lc p x q y) := by
  obtain ⟨x1, x2⟩ := hx
  obtain ⟨y1, y2⟩ := hy
  refine ⟨fun k => ?_, ?_⟩
  · have a := OrderedRing.mul_nonneg hp (x1 k)
    have b := OrderedRing.mul_nonneg hq (y1 k)
    show 0 ≤ p * x k + q * y k
    grind
  · have a := OrderedRing.mul_nonneg hp (show 0 ≤ (x 0 + x 1 + x 2) - 1 by grind)
    have b := OrderedRing.mul_nonneg hq (show 0 ≤ (y 0 + y 1 + y 2) - 1 by grind)
    show 1 ≤ (p * x 0 + q * y 0) + (p * x 1 + q * y 1) + (p * x 2 + q * y 2)
    grind
/-- the numbers c, with their signs -/
structure Ord (m : Fin 3 → Fin 3 → Nat) (c : Fin 3 → Fin 3 → R) : Prop extends Geo m c where
  pos : ∀ i j k, i ≠ j → (m i j = 0 ∨ k < m i j) → 0 ≤ U (c i j) k
  one : ∀ i j k, i ≠ j → (m i j = 0 ∨ k < m i j) → 1 ≤ U (c i j) k + Up (c i j) k
theorem big_e (s : Fin 3) : Big (e s : V3 R) := by
  have h01 : (0 : R) ≤ 1 := by grind
  refine ⟨fun k => ?_, ?_⟩
  · unfold e
    by_cases h : k = s
    · rw [if_pos h]; exact h01
    · rw [if_neg h]; grind
  · have h3 : s = 0 ∨ s = 1 ∨ s = 2 := by
      rcases s with ⟨s, hs⟩
      have : s = 0 ∨ s = 1 ∨ s = 2 := by omega
      rcases this with rfl | rfl | rfl
      · exact .inl rfl
      · exact .inr (.inl rfl)
      · exact .inr (.inr rfl)
    unfold e
    rcases h3 with rfl | rfl | rfl <;> simp <;> grind
/-- the roots of two letters in turns, up to their order -/
theorem big_two (O : Ord m c) {s t : Fin 3} (hst : s ≠ t) {k : Nat} (hk : m s t = 0 ∨ k < m s t) {v : W} (hs : Big (actw c v (e s))) (ht : Big (actw c v (e t))) : Big (actw c v (actl c (alt t s k) (e s))) := by
  rw [actl_root O.toGeo hst]
  have p := O.pos s t k hst hk
  have o := O.one s t k hst hk
  have up : 0 ≤ Up (c s t) k := by
    cases k with
    | zero => show (0 : R) ≤ 0; grind
    | succ k => exact O.pos s t k hst (hk.imp id (by omega))
  by_cases h : k % 2 = 0
  · rw [if_pos h, actw_lc]
    exact Big.lc p up o hs ht
  · rw [if_neg h, actw_lc]
    exact Big.lc up p (by grind) hs ht
end
end Cox

/-! Behind each tile the root of a mirror is positive or negative, as the length grows or shrinks. -/
namespace Cox
open Lean.Grind
variable {m : Fin 3 → Fin 3 → Nat}
theorem alt_split (i j : Fin 3) (a : Nat) : ∀ b : Nat, ∃ r : W, alt i j (a + b) = alt i j a ++ r ∧ r.length = b
  | 0 => ⟨[], (List.append_nil _).symm, rfl⟩
  | b + 1 => by
    obtain ⟨r, h1, h2⟩ := alt_split i j a b
    refine ⟨r ++ [nth i j (a + b)], ?_, by rw [List.length_append, h2]; rfl⟩
    rw [show a + (b + 1) = (a + b) + 1 by omega, alt_snoc, h1, List.append_assoc]
theorem nth_cases (i j : Fin 3) (k : Nat) {x : Fin 3} (h : x = i ∨ x = j) : x = nth i j k ∨ x = nth i j (k + 1) := by
  unfold nth
  by_cases c : k % 2 = 0
  · rw [if_pos c, if_neg (by omega)]
    exact h
  · rw [if_neg c, if_pos (by omega)]
    exact h.symm
/-- no more letters in turns than the order tells -/
theorem few {w v : W} {s t : Fin 3} {k : Nat} (hst : s ≠ t) (ms : m s t = m t s) (hs : ln m (w ++ [s]) = ln m w + 1) (hw : Eqv m w (v ++ (alt t s k).reverse)) (hl : ln m w = ln m v + k) : m s t = 0 ∨ k < m s t := by
  by_cases h0 : m s t = 0
  · exact .inl h0
  · refine .inr (Nat.lt_of_not_le fun hk => ?_)
    obtain ⟨r, h1, h2⟩ := alt_split t s (m s t) (k - m s t)
    rw [show m s t + (k - m s t) = k by omega] at h1
    obtain ⟨n, hn⟩ : ∃ n, m s t = n + 1 := ⟨m s t - 1, by omega⟩
    have tu : Eqv m (alt t s (m t s)) (alt s t (m t s)) := by
      have := Step.turn (m := m) [] [] t s hst.symm (by omega)
      simp only [List.nil_append, List.append_nil] at this
      exact .step this
    have tr := tu.rev
    rw [← ms, hn, show (alt s t (n + 1)).reverse = (alt t s n).reverse ++ [s] by rw [alt, List.reverse_cons]] at tr
    have e1 : Eqv m (w ++ [s]) (v ++ r.reverse ++ (alt t s n).reverse) := by
      rw [h1, List.reverse_append, hn] at hw
      have a := hw.right [s]
      have b := tr.app (v ++ r.reverse) [s]
      have d := snoc_snoc (m := m) (v ++ r.reverse ++ (alt t s n).reverse) s
      refine a.trans ?_
      have b2 : Eqv m (v ++ (r.reverse ++ (alt t s (n + 1)).reverse) ++ [s]) (v ++ r.reverse ++ (alt t s n).reverse ++ [s] ++ [s]) := by simpa using b
      exact b2.trans d
    have a := ln_eqv e1
    have b := ln_append (m := m) (v ++ r.reverse) (alt t s n).reverse
    have d := ln_append (m := m) v r.reverse
    have f := ln_self (m := m) (alt t s n).reverse
    have g := ln_self (m := m) r.reverse
    rw [List.length_reverse, alt_length] at f
    rw [List.length_reverse, h2] at g
    omega
/-- the longest part in two letters, split off -/
theorem split_more {w : W} {s t : Fin 3} (hst : s ≠ t) : ∀ (n : Nat) (v : W) (k : Nat), ln m v ≤ n → Eqv m w (v ++ (alt t s k).reverse) → ln m w = ln m v + k → 1 ≤ k →
    ∃ v k, Eqv m w (v ++ (alt t s k).reverse) ∧ ln m w = ln m v + k ∧ 1 ≤ k ∧ ln m (v ++ [s]) = ln m v + 1 ∧ ln m (v ++ [t]) = ln m v + 1 := by
  intro n
  induction n with
  | zero =>
    intro v k hn hw hl hk
    have a := ln_snoc (m := m) v s
    have b := ln_snoc (m := m) v t
    exact ⟨v, k, hw, hl, hk, by omega, by omega⟩
  | succ n ih =>
    intro v k hn hw hl hk
    -- a letter that shortens
    have one : ∀ x : Fin 3, (x = t ∨ x = s) → ln m v = ln m (v ++ [x]) + 1 → ∃ v k, Eqv m w (v ++ (alt t s k).reverse) ∧ ln m w = ln m v + k ∧ 1 ≤ k ∧ ln m (v ++ [s]) = ln m v + 1 ∧ ln m (v ++ [t]) = ln m v + 1 := by
      intro x hx hlt
      obtain ⟨j, rfl⟩ : ∃ j, k = j + 1 := ⟨k - 1, by omega⟩
      rcases nth_cases t s j hx with e | e
      · -- it is the first one of the letters in turns
        exfalso
        rw [alt_snoc, List.reverse_append, ← e] at hw
        have hw2 : Eqv m w ((v ++ [x]) ++ (alt t s j).reverse) := by simpa using hw
        have a := ln_eqv hw2
        have b := ln_append (m := m) (v ++ [x]) (alt t s j).reverse
        have f := ln_self (m := m) (alt t s j).reverse
        rw [List.length_reverse, alt_length] at f
        omega
      · refine ih (v ++ [x]) (j + 2) (by omega) ?_ (by omega) (by omega)
        rw [show j + 2 = (j + 1) + 1 from rfl, alt_snoc, List.reverse_append, ← e]
        have a := (snoc_snoc (m := m) v x).symm.right (alt t s (j + 1)).reverse
        have b : Eqv m (v ++ (alt t s (j + 1)).reverse) (v ++ [x] ++ ([x].reverse ++ (alt t s (j + 1)).reverse)) := by simpa using a
        exact hw.trans b
    rcases ln_snoc (m := m) v s with a | a
    · rcases ln_snoc (m := m) v t with b | b
      · exact ⟨v, k, hw, hl, hk, a, b⟩
      · exact one t (.inl rfl) b
    · exact one s (.inr rfl) a
section
variable {R : Type} [CommRing R] [LE R] [LT R] [Std.LawfulOrderLT R] [Std.IsLinearOrder R] [OrderedRing R]
variable {c : Fin 3 → Fin 3 → R}
theorem ln_zero {w : W} (h : ln m w = 0) : Eqv m w [] := by
  obtain ⟨u, hu, h1⟩ := ln_ex (m := m) w
  have : u = [] := List.eq_nil_of_length_eq_zero (by omega)
  subst this
  exact hu
/-- a last letter of a shortest word -/
theorem last_ex {w : W} (h : ln m w ≠ 0) : ∃ t, ln m w = ln m (w ++ [t]) + 1 := by
  obtain ⟨u, hu, h1⟩ := ln_ex (m := m) w
  rcases List.eq_nil_or_concat u with rfl | ⟨x, t, rfl⟩
  · rw [List.length_nil] at h1
    omega
  · refine ⟨t, ?_⟩
    rw [List.concat_eq_append] at hu h1
    have a := ln_le ((hu.right [t]).trans (snoc_snoc x t))
    rw [List.length_append, List.length_singleton] at h1
    have b := ln_snoc (m := m) w t
    omega
/-- the theorem of the roots -/
theorem root_pos (O : Ord m c) : ∀ (n : Nat) (w : W) (s : Fin 3), ln m w ≤ n → ln m (w ++ [s]) = ln m w + 1 → Big (actw c w (e s)) := by
  intro n
  induction n with
  | zero =>
    intro w s hn hs
    rw [O.toGeo.eqv (ln_zero (by omega))]
    exact big_e s
  | succ n ih =>
    intro w s hn hs
    by_cases h0 : ln m w = 0
    · rw [O.toGeo.eqv (ln_zero h0)]
      exact big_e s
    · obtain ⟨t, ht⟩ := last_ex h0
      have hst : s ≠ t := fun z => by
        rw [z] at hs
        omega
      obtain ⟨v, k, hw, hl, hk, h1, h2⟩ := split_more hst (ln m (w ++ [t])) (w ++ [t]) 1 (Nat.le_refl _) (snoc_snoc w t).symm ht (Nat.le_refl _)
      have fw := few hst (O.msym s t) hs hw hl
      rw [O.toGeo.eqv hw, actw_append]
      have r := actl_reverse (c := c) (alt t s k).reverse (e s)
      rw [List.reverse_reverse] at r
      rw [← r]
      exact big_two O hst fw (ih v s (by omega) h1) (ih v t (by omega) h2)
theorem act_e (G : Geo m c) (s : Fin 3) : act c s (e s) = lc (-1) (e s) 0 (e s) := by
  have h2 := G.two s
  funext k
  unfold act bump lc
  have d : dot c s (e s) = c s s := by
    unfold dot e
    have h3 : s = 0 ∨ s = 1 ∨ s = 2 := by
      rcases s with ⟨s, hs⟩
      have : s = 0 ∨ s = 1 ∨ s = 2 := by omega
      rcases this with rfl | rfl | rfl
      · exact .inl rfl
      · exact .inr (.inl rfl)
      · exact .inr (.inr rfl)
    rcases h3 with rfl | rfl | rfl <;> simp <;> grind
  rw [d, h2]
  unfold e
  by_cases h : k = s
  · simp only [if_pos h]; grind
  · simp only [if_neg h]; grind
/-- a shrinking one's root is negative -/
theorem root_neg (O : Ord m c) (w : W) (s : Fin 3) (h : ln m w = ln m (w ++ [s]) + 1) : ∃ v : V3 R, Big v ∧ actw c w (e s) = lc (-1) v 0 v := by
  have h2 : ln m (w ++ [s] ++ [s]) = ln m (w ++ [s]) + 1 := by rw [ln_eqv (snoc_snoc w s), h]
  refine ⟨actw c (w ++ [s]) (e s), root_pos O _ (w ++ [s]) s (Nat.le_refl _) h2, ?_⟩
  rw [← actw_lc, ← act_e O.toGeo]
  have := O.toGeo.eqv (snoc_snoc w s) (e s)
  rw [← this, actw_append, actw_append, actw_append]
  rfl
end
end Cox

/-! Turns alone connect shortest words; they shorten any other. -/
namespace Cox
open Lean.Grind
variable {m : Fin 3 → Fin 3 → Nat}
/-- one turn -/
def Turn1 (m : Fin 3 → Fin 3 → Nat) (a b : W) : Prop := ∃ (u v : W) (i j : Fin 3), i ≠ j ∧ m i j ≠ 0 ∧ a = u ++ (alt i j (m i j) ++ v) ∧ b = u ++ (alt j i (m i j) ++ v)
/-- turns, one after the other -/
inductive Tn (m : Fin 3 → Fin 3 → Nat) : W → W → Prop
  | refl (u : W) : Tn m u u
  | more {u v w : W} : Turn1 m u v → Tn m v w → Tn m u w
theorem Tn.one {u v : W} (h : Turn1 m u v) : Tn m u v := .more h (.refl v)
theorem Tn.trans {u v w : W} (h : Tn m u v) (k : Tn m v w) : Tn m u w := by
  induction h with
  | refl u => exact k
  | more a _ ih => exact .more a (ih k)
theorem Turn1.app {u v : W} (h : Turn1 m u v) (x y : W) : Turn1 m (x ++ u ++ y) (x ++ v ++ y) := by
  obtain ⟨a, b, i, j, h1, h2, rfl, rfl⟩ := h
  exact ⟨x ++ a, b ++ y, i, j, h1, h2, by simp, by simp⟩
theorem Tn.app {u v : W} (h : Tn m u v) (x y : W) : Tn m (x ++ u ++ y) (x ++ v ++ y) := by
  induction h with
  | refl u => exact .refl _
  | more a _ ih => exact .more (a.app x y) ih
theorem Turn1.eqv {u v : W} (h : Turn1 m u v) : Eqv m u v := by
  obtain ⟨a, b, i, j, h1, h2, rfl, rfl⟩ := h
  exact .step (.turn a b i j h1 h2)
theorem Tn.eqv {u v : W} (h : Tn m u v) : Eqv m u v := by
  induction h with
  | refl u => exact .refl _
  | more a _ ih => exact a.eqv.trans ih
theorem Turn1.len {u v : W} (h : Turn1 m u v) : u.length = v.length := by
  obtain ⟨a, b, i, j, h1, h2, rfl, rfl⟩ := h
  simp only [List.length_append, alt_length]
theorem Tn.len {u v : W} (h : Tn m u v) : u.length = v.length := by
  induction h with
  | refl u => rfl
  | more a _ ih => rw [a.len, ih]
theorem Tn.snoc {u v : W} (h : Tn m u v) (s : Fin 3) : Tn m (u ++ [s]) (v ++ [s]) := h.app [] [s]
theorem turn_rev (ms : ∀ i j, m i j = m j i) {s t : Fin 3} (hst : s ≠ t) (h0 : m s t ≠ 0) (v : W) : Turn1 m (v ++ (alt s t (m s t)).reverse) (v ++ (alt t s (m s t)).reverse) := by
  rw [alt_reverse, alt_reverse]
  by_cases h : m s t % 2 = 0
  · rw [if_pos h, if_pos h]
    exact ⟨v, [], t, s, hst.symm, by rw [ms]; exact h0, by rw [List.append_nil, ms t s], by rw [List.append_nil, ms t s]⟩
  · rw [if_neg h, if_neg h]
    exact ⟨v, [], s, t, hst, h0, by rw [List.append_nil], by rw [List.append_nil]⟩
section
variable {R : Type} [CommRing R] [LE R] [LT R] [Std.LawfulOrderLT R] [Std.IsLinearOrder R] [OrderedRing R]
variable {c : Fin 3 → Fin 3 → R}
theorem big_not {x v : V3 R} (h : Big x) (k : Big v) (e : x = lc (-1) v 0 v) : False := by
  obtain ⟨_, a⟩ := h
  obtain ⟨_, b⟩ := k
  rw [e] at a
  have d : 1 ≤ (-1 * v 0 + 0 * v 0) + (-1 * v 1 + 0 * v 1) + (-1 * v 2 + 0 * v 2) := a
  have z : (0 : R) < 1 := by grind
  grind
/-- the length grows exactly if the root is positive -/
theorem grows (O : Ord m c) {w : W} {s : Fin 3} (h : Big (actw c w (e s))) : ln m (w ++ [s]) = ln m w + 1 := by
  rcases ln_snoc (m := m) w s with a | a
  · exact a
  · obtain ⟨v, hv, hw⟩ := root_neg O w s a
    exact (big_not h hv hw).elim
theorem longer (m : Fin 3 → Fin 3 → Nat) (ms : ∀ i j, m i j = m j i) {s t : Fin 3} (hst : s ≠ t) (h0 : m s t ≠ 0) : Eqv m (alt t s (m s t + 1)) (alt s t (m s t - 1)) := by
  obtain ⟨n, hn⟩ : ∃ n, m s t = n + 1 := ⟨m s t - 1, by omega⟩
  have tu : Eqv m (alt t s (m t s)) (alt s t (m t s)) := by
    have := Step.turn (m := m) [] [] t s hst.symm (by rw [ms]; exact h0)
    simp only [List.nil_append, List.append_nil] at this
    exact .step this
  rw [ms t s, hn] at tu
  have a := tu.right [nth t s (n + 1)]
  rw [alt_snoc s t n, nth_succ] at a
  rw [hn, alt_snoc t s (n + 1), nth_succ]
  exact a.trans (snoc_snoc _ _)
/-- two last letters: all their turns -/
theorem both (O : Ord m c) {w : W} {s t : Fin 3} (hst : s ≠ t) (hs : ln m w = ln m (w ++ [s]) + 1) (ht : ln m w = ln m (w ++ [t]) + 1) :
    m s t ≠ 0 ∧ ∃ v, Eqv m w (v ++ (alt t s (m s t)).reverse) ∧ ln m w = ln m v + m s t := by
  obtain ⟨v, k, hw, hl, hk, h1, h2⟩ := split_more hst (ln m (w ++ [t])) (w ++ [t]) 1 (Nat.le_refl _) (snoc_snoc w t).symm ht (Nat.le_refl _)
  have no : ¬ (m s t = 0 ∨ k < m s t) := fun z => by
    have b := big_two O hst z (root_pos O _ v s (Nat.le_refl _) h1) (root_pos O _ v t (Nat.le_refl _) h2)
    have r := actl_reverse (c := c) (alt t s k).reverse (e s)
    rw [List.reverse_reverse] at r
    rw [r, ← actw_append, ← O.toGeo.eqv hw] at b
    have := grows O b
    omega
  have h0 : m s t ≠ 0 := fun z => no (.inl z)
  have hm : m s t ≤ k := Nat.le_of_not_lt fun z => no (.inr z)
  have hk2 : k = m s t := by
    refine Nat.le_antisymm (Nat.le_of_not_lt fun z => ?_) hm
    obtain ⟨r, e1, e2⟩ := alt_split t s (m s t + 1) (k - (m s t + 1))
    rw [show m s t + 1 + (k - (m s t + 1)) = k by omega] at e1
    rw [e1, List.reverse_append] at hw
    have a := ((longer m O.msym hst h0).rev.left r.reverse).left v
    have b := ln_eqv (hw.trans a)
    have d := ln_append (m := m) v (r.reverse ++ (alt s t (m s t - 1)).reverse)
    have f := ln_self (m := m) (r.reverse ++ (alt s t (m s t - 1)).reverse)
    rw [List.length_append, List.length_reverse, List.length_reverse, alt_length, e2] at f
    omega
  exact ⟨h0, v, by rw [← hk2]; exact hw, by omega⟩
/-- turns alone connect the shortest words of a tile -/
theorem turns (O : Ord m c) : ∀ (n : Nat) (u w : W), u.length = n → Red m u → Red m w → Eqv m u w → Tn m u w := by
  intro n
  induction n with
  | zero =>
    intro u w hu ru rw_ huw
    have hu0 : u = [] := List.eq_nil_of_length_eq_zero hu
    have hw0 : w = [] := by
      refine List.eq_nil_of_length_eq_zero ?_
      rw [← rw_, ← ln_eqv huw, ru, hu]
    rw [hu0, hw0]
    exact .refl _
  | succ n ih =>
    intro u w hu ru rw_ huw
    have hwl : w.length = n + 1 := by rw [← rw_, ← ln_eqv huw, ru, hu]
    -- words of this tile with the same last letter
    have same : ∀ (x y : W) (s : Fin 3), x.length = n → Red m (x ++ [s]) → Red m (y ++ [s]) → Eqv m (x ++ [s]) (y ++ [s]) → Tn m (x ++ [s]) (y ++ [s]) := fun x y s hx rx ry h =>
      (ih x y hx rx.part.1 ry.part.1 h.cancel_right).snoc s
    rcases List.eq_nil_or_concat u with rfl | ⟨x, s, rfl⟩
    · simp at hu
    rcases List.eq_nil_or_concat w with rfl | ⟨y, t, rfl⟩
    · simp at hwl
    simp only [List.concat_eq_append] at *
    have hx : x.length = n := by simpa using hu
    have hy : y.length = n := by simpa using hwl
    by_cases hst : s = t
    · subst hst
      exact same x y s hx ru rw_ huw
    · have lu : ln m (x ++ [s]) = n + 1 := by rw [ru, hu]
      have d1 : ln m (x ++ [s]) = ln m (x ++ [s] ++ [s]) + 1 := by
        rw [ln_eqv (snoc_snoc x s), lu, ru.part.1, hx]
      have d2 : ln m (x ++ [s]) = ln m (x ++ [s] ++ [t]) + 1 := by
        rw [ln_eqv ((huw.right [t]).trans (snoc_snoc y t)), lu, rw_.part.1, hy]
      obtain ⟨h0, v0, hv, hl⟩ := both O hst d1 d2
      obtain ⟨v, hv1, hv2⟩ := red_ex (m := m) v0
      have hB : Eqv m (x ++ [s]) (v ++ (alt t s (m s t)).reverse) := hv.trans (hv1.right _)
      have tA := turn_rev O.msym hst h0 v
      have hA : Eqv m (x ++ [s]) (v ++ (alt s t (m s t)).reverse) := hB.trans tA.eqv.symm
      have lv : v.length + m s t = n + 1 := by rw [← hv2, ← ln_eqv hv1]; omega
      obtain ⟨k, hk⟩ : ∃ k, m s t = k + 1 := ⟨m s t - 1, by omega⟩
      have rA : Red m (v ++ (alt s t (m s t)).reverse) := by
        unfold Red
        rw [← ln_eqv hA, lu, List.length_append, List.length_reverse, alt_length, lv]
      have rB : Red m (v ++ (alt t s (m s t)).reverse) := by
        unfold Red
        rw [← ln_eqv hB, lu, List.length_append, List.length_reverse, alt_length, lv]
      have eA : v ++ (alt s t (m s t)).reverse = (v ++ (alt t s k).reverse) ++ [s] := by
        rw [hk, alt, List.reverse_cons, List.append_assoc]
      have eB : v ++ (alt t s (m s t)).reverse = (v ++ (alt s t k).reverse) ++ [t] := by
        rw [hk, alt, List.reverse_cons, List.append_assoc]
      have t1 : Tn m (x ++ [s]) (v ++ (alt s t (m s t)).reverse) := by
        rw [eA] at hA rA ⊢
        exact same x _ s hx ru rA hA
      have t3 : Tn m (v ++ (alt t s (m s t)).reverse) (y ++ [t]) := by
        have hBw := hB.symm.trans huw
        rw [eB] at rB hBw ⊢
        refine same _ y t ?_ rB rw_ hBw
        rw [List.length_append, List.length_reverse, alt_length]
        omega
      exact t1.trans ((Tn.one tA).trans t3)
/-- turns lead from a word that is not shortest to one with two equal letters next to each other -/
theorem shorten (O : Ord m c) (w : W) (h : ¬ Red m w) : ∃ (u v : W) (s : Fin 3), Tn m w (u ++ ([s, s] ++ v)) := by
  have key : ∀ (y x : W), Red m x → ¬ Red m (x ++ y) → ∃ (u v : W) (s : Fin 3), Tn m (x ++ y) (u ++ ([s, s] ++ v)) := by
    intro y
    induction y with
    | nil =>
      intro x hx h
      rw [List.append_nil] at h
      exact absurd hx h
    | cons s y ih =>
      intro x hx h
      have e : x ++ s :: y = (x ++ [s]) ++ y := by simp
      by_cases c1 : Red m (x ++ [s])
      · rw [e] at h ⊢
        exact ih (x ++ [s]) c1 h
      · have lt : ln m x = ln m (x ++ [s]) + 1 := by
          rcases ln_snoc (m := m) x s with a | a
          · exact absurd ((red_snoc hx).mpr a) c1
          · exact a
        obtain ⟨z, hz1, hz2⟩ := red_ex (m := m) (x ++ [s])
        have hxz : Eqv m x (z ++ [s]) := (snoc_snoc x s).symm.trans (hz1.right [s])
        have rz : Red m (z ++ [s]) := by
          unfold Red
          rw [← ln_eqv hxz, lt, ln_eqv hz1, hz2, List.length_append]
          rfl
        have t := (turns O _ x (z ++ [s]) rfl hx rz hxz).app [] (s :: y)
        exact ⟨z, y, s, by simpa using t⟩
  exact key w [] (by unfold Red; exact Nat.le_zero.mp (ln_self [])) h
end
end Cox

/-! Real numbers: rational sequences whose members settle as fast as halves. -/
namespace Cox
open Lean.Grind
def h : Nat → Rat
  | 0 => 1
  | i + 1 => h i / 2
theorem h_succ (i : Nat) : h i = h (i + 1) + h (i + 1) := by
  show h i = h i / 2 + h i / 2
  grind
theorem h_pos : ∀ i, 0 < h i
  | 0 => by show (0 : Rat) < 1; decide
  | i + 1 => by
    have a := h_pos i
    have b := h_succ i
    grind
theorem mul_bd {a b B D : Rat} (h1 : -B ≤ a) (h2 : a ≤ B) (h3 : -D ≤ b) (h4 : b ≤ D) : a * b ≤ B * D := by
  have x := Rat.mul_nonneg (show 0 ≤ B - a by grind) (show 0 ≤ D + b by grind)
  have y := Rat.mul_nonneg (show 0 ≤ B + a by grind) (show 0 ≤ D - b by grind)
  grind
structure Sq where
  f : Nat → Rat
  ok : ∃ C, ∀ i j, i ≤ j → f i - f j ≤ C * h i ∧ f j - f i ≤ C * h i
theorem nn_of {C x : Rat} (hx : 0 < x) (h1 : 0 ≤ C * x) : 0 ≤ C := by
  by_cases c : 0 ≤ C
  · exact c
  · have := Rat.mul_pos (show 0 < -C by grind) hx
    grind
theorem Sq.rate (a : Sq) : ∃ C, 0 ≤ C ∧ ∀ i j, i ≤ j → a.f i - a.f j ≤ C * h i ∧ a.f j - a.f i ≤ C * h i := by
  obtain ⟨C, hC⟩ := a.ok
  refine ⟨C, nn_of (h_pos 0) ?_, hC⟩
  have := (hC 0 0 (Nat.le_refl 0)).1
  grind
theorem Sq.bound (a : Sq) : ∃ B, 0 ≤ B ∧ ∀ i, -B ≤ a.f i ∧ a.f i ≤ B := by
  obtain ⟨C, h0, hC⟩ := a.rate
  refine ⟨(if 0 ≤ a.f 0 then a.f 0 else -a.f 0) + C, by split <;> grind, fun i => ?_⟩
  have := hC 0 i (Nat.zero_le i)
  have e : h 0 = 1 := rfl
  rw [e] at this
  split <;> grind
def same (a b : Sq) : Prop := ∃ C, ∀ i, a.f i - b.f i ≤ C * h i ∧ b.f i - a.f i ≤ C * h i
instance sqSet : Setoid Sq where
  r := same
  iseqv := {
    refl := fun a => ⟨0, fun i => by grind⟩
    symm := fun ⟨C, hC⟩ => ⟨C, fun i => ⟨(hC i).2, (hC i).1⟩⟩
    trans := fun ⟨C, hC⟩ ⟨D, hD⟩ => ⟨C + D, fun i => by
      have a := hC i
      have b := hD i
      grind⟩ }
def cst (q : Rat) : Sq := ⟨fun _ => q, 0, fun i j _ => by grind⟩
def Sq.add (a b : Sq) : Sq := ⟨fun i => a.f i + b.f i, by
  obtain ⟨C, hC⟩ := a.ok
  obtain ⟨D, hD⟩ := b.ok
  refine ⟨C + D, fun i j hij => ?_⟩
  have x := hC i j hij
  have y := hD i j hij
  grind⟩
def Sq.neg (a : Sq) : Sq := ⟨fun i => -a.f i, by
  obtain ⟨C, hC⟩ := a.ok
  refine ⟨C, fun i j hij => ?_⟩
  have x := hC i j hij
  grind⟩
theorem mul_step {x x' y y' B D C E t : Rat} (a1 : -B ≤ x ∧ x ≤ B) (a2 : -D ≤ y' ∧ y' ≤ D) (a3 : x - x' ≤ C * t ∧ x' - x ≤ C * t) (a4 : y - y' ≤ E * t ∧ y' - y ≤ E * t) : x * y - x' * y' ≤ (B * E + D * C) * t := by
  have p := mul_bd a1.1 a1.2 (show -(E * t) ≤ y - y' by grind) a4.1
  have q := mul_bd a2.1 a2.2 (show -(C * t) ≤ x - x' by grind) a3.1
  grind
def Sq.mul (a b : Sq) : Sq := ⟨fun i => a.f i * b.f i, by
  obtain ⟨C, hC⟩ := a.ok
  obtain ⟨D, hD⟩ := b.ok
  obtain ⟨B, _, hB⟩ := a.bound
  obtain ⟨E, _, hE⟩ := b.bound
  refine ⟨B * D + E * C, fun i j hij => ⟨?_, ?_⟩⟩
  · exact mul_step (hB i) (hE j) (hC i j hij) (hD i j hij)
  · have := mul_step (hB j) (hE i) (And.intro (hC i j hij).2 (hC i j hij).1) (And.intro (hD i j hij).2 (hD i j hij).1)
    exact this⟩
def Re := Quotient sqSet
def Re.of (a : Sq) : Re := Quotient.mk sqSet a
theorem Re.ex (x : Re) : ∃ a, x = Re.of a := by
  obtain ⟨a, h⟩ := Quotient.exists_rep x
  exact ⟨a, h.symm⟩
theorem Re.eq {a b : Sq} (h : ∀ i, a.f i = b.f i) : Re.of a = Re.of b := Quotient.sound ⟨0, fun i => by rw [h]; grind⟩
def Re.add : Re → Re → Re := Quotient.lift₂ (fun a b => Re.of (a.add b)) (fun a b a' b' ⟨C, hC⟩ ⟨D, hD⟩ => Quotient.sound ⟨C + D, fun i => by
  have x := hC i
  have y := hD i
  show (a.f i + b.f i) - (a'.f i + b'.f i) ≤ _ ∧ (a'.f i + b'.f i) - (a.f i + b.f i) ≤ _
  grind⟩)
def Re.neg : Re → Re := Quotient.lift (fun a => Re.of a.neg) (fun a a' ⟨C, hC⟩ => Quotient.sound ⟨C, fun i => by
  have x := hC i
  show (-a.f i) - (-a'.f i) ≤ _ ∧ (-a'.f i) - (-a.f i) ≤ _
  grind⟩)
def Re.mul : Re → Re → Re := Quotient.lift₂ (fun a b => Re.of (a.mul b)) (fun a b a' b' ⟨C, hC⟩ ⟨D, hD⟩ => Quotient.sound (by
  obtain ⟨B, _, hB⟩ := a.bound
  obtain ⟨E, _, hE⟩ := b'.bound
  obtain ⟨B', _, hB'⟩ := a'.bound
  obtain ⟨E', _, hE'⟩ := b.bound
  refine ⟨(B * D + E * C) + (B' * D + E' * C), fun i => ?_⟩
  have p := mul_step (hB i) (hE i) (hC i) (hD i)
  have q := mul_step (hB' i) (hE' i) (And.intro (hC i).2 (hC i).1) (And.intro (hD i).2 (hD i).1)
  have z1 : 0 ≤ (B * D + E * C) * h i := by
    have u := hC i
    have v := hD i
    have c0 : 0 ≤ C := nn_of (h_pos i) (by grind)
    have d0 : 0 ≤ D := nn_of (h_pos i) (by grind)
    exact Rat.mul_nonneg (by have := Rat.mul_nonneg ‹0 ≤ B› d0; have := Rat.mul_nonneg ‹0 ≤ E› c0; grind) (by have := h_pos i; grind)
  have z2 : 0 ≤ (B' * D + E' * C) * h i := by
    have u := hC i
    have v := hD i
    have c0 : 0 ≤ C := nn_of (h_pos i) (by grind)
    have d0 : 0 ≤ D := nn_of (h_pos i) (by grind)
    exact Rat.mul_nonneg (by have := Rat.mul_nonneg ‹0 ≤ B'› d0; have := Rat.mul_nonneg ‹0 ≤ E'› c0; grind) (by have := h_pos i; grind)
  show a.f i * b.f i - a'.f i * b'.f i ≤ _ ∧ a'.f i * b'.f i - a.f i * b.f i ≤ _
  grind))
instance : Add Re := ⟨Re.add⟩
instance : Mul Re := ⟨Re.mul⟩
instance : Neg Re := ⟨Re.neg⟩
instance : Sub Re := ⟨fun a b => a + -b⟩
instance : NatCast Re := ⟨fun n => Re.of (cst n)⟩
instance : IntCast Re := ⟨fun n => Re.of (cst n)⟩
instance (n : Nat) : OfNat Re n := ⟨Re.of (cst n)⟩
instance : SMul Nat Re := ⟨fun n a => (n : Re) * a⟩
instance : SMul Int Re := ⟨fun n a => (n : Re) * a⟩
def Re.pow (a : Re) : Nat → Re
  | 0 => 1
  | n + 1 => Re.pow a n * a
instance : HPow Re Nat Re := ⟨Re.pow⟩
instance : CommRing Re where
  add_zero a := by
    obtain ⟨x, rfl⟩ := a.ex
    exact Re.eq fun i => by show x.f i + ((0 : Nat) : Rat) = x.f i; grind
  add_comm a b := by
    obtain ⟨x, rfl⟩ := a.ex
    obtain ⟨y, rfl⟩ := b.ex
    exact Re.eq fun i => by show x.f i + y.f i = y.f i + x.f i; grind
  add_assoc a b c := by
    obtain ⟨x, rfl⟩ := a.ex
    obtain ⟨y, rfl⟩ := b.ex
    obtain ⟨z, rfl⟩ := c.ex
    exact Re.eq fun i => by show x.f i + y.f i + z.f i = x.f i + (y.f i + z.f i); grind
  mul_assoc a b c := by
    obtain ⟨x, rfl⟩ := a.ex
    obtain ⟨y, rfl⟩ := b.ex
    obtain ⟨z, rfl⟩ := c.ex
    exact Re.eq fun i => by show x.f i * y.f i * z.f i = x.f i * (y.f i * z.f i); grind
  mul_one a := by
    obtain ⟨x, rfl⟩ := a.ex
    exact Re.eq fun i => by show x.f i * ((1 : Nat) : Rat) = x.f i; grind
  one_mul a := by
    obtain ⟨x, rfl⟩ := a.ex
    exact Re.eq fun i => by show ((1 : Nat) : Rat) * x.f i = x.f i; grind
  left_distrib a b c := by
    obtain ⟨x, rfl⟩ := a.ex
    obtain ⟨y, rfl⟩ := b.ex
    obtain ⟨z, rfl⟩ := c.ex
    exact Re.eq fun i => by show x.f i * (y.f i + z.f i) = x.f i * y.f i + x.f i * z.f i; grind
  right_distrib a b c := by
    obtain ⟨x, rfl⟩ := a.ex
    obtain ⟨y, rfl⟩ := b.ex
    obtain ⟨z, rfl⟩ := c.ex
    exact Re.eq fun i => by show (x.f i + y.f i) * z.f i = x.f i * z.f i + y.f i * z.f i; grind
  zero_mul a := by
    obtain ⟨x, rfl⟩ := a.ex
    exact Re.eq fun i => by show ((0 : Nat) : Rat) * x.f i = ((0 : Nat) : Rat); grind
  mul_zero a := by
    obtain ⟨x, rfl⟩ := a.ex
    exact Re.eq fun i => by show x.f i * ((0 : Nat) : Rat) = ((0 : Nat) : Rat); grind
  mul_comm a b := by
    obtain ⟨x, rfl⟩ := a.ex
    obtain ⟨y, rfl⟩ := b.ex
    exact Re.eq fun i => by show x.f i * y.f i = y.f i * x.f i; grind
  pow_zero _ := rfl
  pow_succ _ _ := rfl
  ofNat_succ n := Re.eq fun i => by show ((n + 1 : Nat) : Rat) = ((n : Nat) : Rat) + ((1 : Nat) : Rat); grind
  ofNat_eq_natCast _ := rfl
  nsmul_eq_natCast_mul _ _ := rfl
  neg_add_cancel a := by
    obtain ⟨x, rfl⟩ := a.ex
    exact Re.eq fun i => by show -x.f i + x.f i = ((0 : Nat) : Rat); grind
  sub_eq_add_neg _ _ := rfl
  neg_zsmul n a := by
    obtain ⟨x, rfl⟩ := a.ex
    exact Re.eq fun i => by show ((-n : Int) : Rat) * x.f i = -(((n : Int) : Rat) * x.f i); grind
  zsmul_natCast_eq_nsmul n a := by
    obtain ⟨x, rfl⟩ := a.ex
    exact Re.eq fun i => by exact congrArg (fun z : Rat => z * x.f i) (Rat.intCast_natCast n)
  intCast_ofNat n := Re.eq fun i => by exact Rat.intCast_natCast n
  intCast_neg n := Re.eq fun i => by show ((-n : Int) : Rat) = -((n : Int) : Rat); grind
/-! the order -/
def Sq.le (a b : Sq) : Prop := ∃ C, ∀ i, a.f i - b.f i ≤ C * h i
theorem same_symm {a b : Sq} (e : same a b) : same b a := by
  obtain ⟨C, hC⟩ := e
  exact ⟨C, fun i => ⟨(hC i).2, (hC i).1⟩⟩
theorem Sq.le_congr {a b a' b' : Sq} (e1 : same a a') (e2 : same b b') (l : a.le b) : a'.le b' := by
  obtain ⟨C, hC⟩ := e1
  obtain ⟨D, hD⟩ := e2
  obtain ⟨E, hE⟩ := l
  refine ⟨C + D + E, fun i => ?_⟩
  have x := hC i
  have y := hD i
  have z := hE i
  grind
def Re.le : Re → Re → Prop := Quotient.lift₂ Sq.le (fun a b a' b' e1 e2 => propext ⟨Sq.le_congr e1 e2, Sq.le_congr (same_symm e1) (same_symm e2)⟩)
instance : LE Re := ⟨Re.le⟩
instance : LT Re := ⟨fun a b => a ≤ b ∧ ¬ b ≤ a⟩
theorem Re.le_iff {a b : Sq} : Re.of a ≤ Re.of b ↔ a.le b := Iff.rfl
theorem Sq.total (a b : Sq) : a.le b ∨ b.le a := by
  obtain ⟨C, c0, hC⟩ := (a.add b.neg).rate
  by_cases c : a.le b
  · exact .inl c
  · refine .inr ⟨C, fun j => ?_⟩
    have n : ∃ i, ¬ a.f i - b.f i ≤ C * h i := Classical.byContradiction fun z => c ⟨C, fun i => Classical.byContradiction fun y => z ⟨i, y⟩⟩
    obtain ⟨i, hi⟩ := n
    have pj := h_pos j
    have cj := Rat.mul_nonneg c0 (show 0 ≤ h j by grind)
    rcases Nat.le_total i j with ij | ij
    · have x := hC i j ij
      have x1 : (a.f i + -b.f i) - (a.f j + -b.f j) ≤ C * h i := x.1
      grind
    · have x := hC j i ij
      have x2 : (a.f i + -b.f i) - (a.f j + -b.f j) ≤ C * h j := x.2
      have pi := h_pos i
      have ci := Rat.mul_nonneg c0 (show 0 ≤ h i by grind)
      grind
instance : Std.IsLinearOrder Re where
  le_refl a := by
    obtain ⟨x, rfl⟩ := a.ex
    exact ⟨0, fun i => by grind⟩
  le_trans a b c := by
    obtain ⟨x, rfl⟩ := a.ex
    obtain ⟨y, rfl⟩ := b.ex
    obtain ⟨z, rfl⟩ := c.ex
    rintro ⟨C, hC⟩ ⟨D, hD⟩
    exact ⟨C + D, fun i => by have p := hC i; have q := hD i; grind⟩
  le_antisymm a b := by
    obtain ⟨x, rfl⟩ := a.ex
    obtain ⟨y, rfl⟩ := b.ex
    rintro ⟨C, hC⟩ ⟨D, hD⟩
    have c0 : 0 ≤ C + D := nn_of (h_pos 0) (by have p := hC 0; have q := hD 0; grind)
    refine Quotient.sound ⟨(if 0 ≤ C then C else 0) + (if 0 ≤ D then D else 0), fun i => ?_⟩
    have p := hC i
    have q := hD i
    have pi := h_pos i
    have k1 : C * h i ≤ (if 0 ≤ C then C else 0) * h i := by
      split
      · exact Rat.le_refl
      · have := Rat.mul_nonneg (show 0 ≤ -C by grind) (show 0 ≤ h i by grind)
        grind
    have k2 : D * h i ≤ (if 0 ≤ D then D else 0) * h i := by
      split
      · exact Rat.le_refl
      · have := Rat.mul_nonneg (show 0 ≤ -D by grind) (show 0 ≤ h i by grind)
        grind
    have k3 : 0 ≤ (if 0 ≤ C then C else 0) * h i := Rat.mul_nonneg (by split <;> grind) (by grind)
    have k4 : 0 ≤ (if 0 ≤ D then D else 0) * h i := Rat.mul_nonneg (by split <;> grind) (by grind)
    grind
  le_total a b := by
    obtain ⟨x, rfl⟩ := a.ex
    obtain ⟨y, rfl⟩ := b.ex
    exact x.total y
instance : Std.LawfulOrderLT Re where
  lt_iff _ _ := Iff.rfl
/-- halves get as small as one likes -/
theorem h_le : ∀ i : Nat, ((i : Rat) + 1) * h i ≤ 1
  | 0 => by show (((0 : Nat) : Rat) + 1) * 1 ≤ 1; grind
  | i + 1 => by
    have a := h_le i
    have b := h_succ i
    have p := h_pos (i + 1)
    have n : (0 : Rat) ≤ (i : Rat) := by grind
    have m := Rat.mul_nonneg n (show 0 ≤ h (i + 1) by grind)
    rw [b] at a
    have e : (((i + 1 : Nat) : Rat) + 1) * h (i + 1) = (i : Rat) * h (i + 1) + (h (i + 1) + h (i + 1)) := by grind
    rw [e]
    grind
theorem nat_above (q : Rat) : ∃ n : Nat, q ≤ (n : Rat) := by
  refine ⟨q.ceil.toNat, ?_⟩
  have a := Rat.le_ceil (x := q)
  have b : q.ceil ≤ (q.ceil.toNat : Int) := Int.self_le_toNat _
  have c : ((q.ceil : Int) : Rat) ≤ (((q.ceil.toNat : Nat) : Int) : Rat) := Rat.intCast_le_intCast.mpr b
  rw [Rat.intCast_natCast] at c
  exact Rat.le_trans a c
theorem h_small (q : Rat) (hq : 0 < q) (C : Rat) : ∃ i, C * h i < q := by
  obtain ⟨n, hn⟩ := nat_above (C / q)
  refine ⟨n, ?_⟩
  have e : C = (C / q) * q := by
    rw [Rat.div_mul_cancel]
    grind
  have p := h_pos n
  have l := h_le n
  have k := Rat.mul_nonneg (show 0 ≤ (n : Rat) - C / q by grind) (show 0 ≤ q by grind)
  have k1 : C ≤ (n : Rat) * q := by grind
  have k2 := Rat.mul_nonneg (show 0 ≤ (n : Rat) * q - C by grind) (show 0 ≤ h n by grind)
  have k3 := Rat.mul_nonneg (show 0 ≤ 1 - ((n : Rat) + 1) * h n by grind) (show 0 ≤ q by grind)
  have k4 := Rat.mul_pos hq p
  grind
/-- positive: from some member on at least some number -/
theorem Sq.pos_of {a : Sq} (hn : ¬ a.le (cst 0)) : ∃ (q : Rat) (i : Nat), 0 < q ∧ ∀ j, i ≤ j → q ≤ a.f j := by
  obtain ⟨C, c0, hC⟩ := a.rate
  have n : ∃ i, ¬ a.f i - 0 ≤ C * h i := Classical.byContradiction fun z => hn ⟨C, fun i => Classical.byContradiction fun y => z ⟨i, y⟩⟩
  obtain ⟨i, hi⟩ := n
  exact ⟨a.f i - C * h i, i, by grind, fun j hj => by have := (hC i j hj).1; grind⟩
theorem Sq.not_le_zero {a : Sq} {q : Rat} {i : Nat} (hq : 0 < q) (h1 : ∀ j, i ≤ j → q ≤ a.f j) : ¬ a.le (cst 0) := by
  rintro ⟨C, hC⟩
  obtain ⟨k, hk⟩ := h_small q hq C
  have c0 : 0 ≤ C := by
    have a1 := hC i
    have a2 := h1 i (Nat.le_refl i)
    have a3 : a.f i - 0 ≤ C * h i := a1
    exact nn_of (h_pos i) (by grind)
  have anti : ∀ d : Nat, h (k + d) ≤ h k := fun d => by
    induction d with
    | zero => exact Rat.le_refl
    | succ d ih =>
      have b := h_succ (k + d)
      have p := h_pos (k + d + 1)
      show h (k + d + 1) ≤ h k
      grind
  have a1 : a.f (k + i) - 0 ≤ C * h (k + i) := hC (k + i)
  have a2 := h1 (k + i) (Nat.le_add_left i k)
  have a3 := Rat.mul_nonneg c0 (show 0 ≤ h k - h (k + i) by have := anti i; grind)
  grind
theorem Re.sub_pos {a b : Re} (l : a < b) : ∃ x : Sq, b + -a = Re.of x ∧ ¬ x.le (cst 0) := by
  obtain ⟨x, rfl⟩ := a.ex
  obtain ⟨y, rfl⟩ := b.ex
  refine ⟨y.add x.neg, rfl, fun z => l.2 ?_⟩
  obtain ⟨C, hC⟩ := z
  refine ⟨C, fun i => ?_⟩
  have : (y.f i + -x.f i) - 0 ≤ C * h i := hC i
  grind
theorem Re.lt_of {a b : Re} {x : Sq} (e : b + -a = Re.of x) (hx : ¬ x.le (cst 0)) : a < b := by
  have n : ¬ b ≤ a := fun z => hx (by
    have : b + -a ≤ Re.of (cst 0) := by
      obtain ⟨u, rfl⟩ := a.ex
      obtain ⟨v, rfl⟩ := b.ex
      obtain ⟨C, hC⟩ := z
      refine ⟨C, fun i => ?_⟩
      have := hC i
      show (v.f i + -u.f i) - 0 ≤ C * h i
      grind
    rw [e] at this
    exact this)
  exact ⟨(Std.IsLinearPreorder.le_total a b).resolve_right n, n⟩
theorem Re.mul_pos {x y : Sq} (hx : ¬ x.le (cst 0)) (hy : ¬ y.le (cst 0)) : ¬ (x.mul y).le (cst 0) := by
  obtain ⟨p, i, hp, h1⟩ := Sq.pos_of hx
  obtain ⟨q, j, hq, h2⟩ := Sq.pos_of hy
  refine Sq.not_le_zero (q := p * q) (i := i + j) (Rat.mul_pos hp hq) fun k hk => ?_
  have a := h1 k (by omega)
  have b := h2 k (by omega)
  have c := Rat.mul_nonneg (show 0 ≤ x.f k - p by grind) (show 0 ≤ q by grind)
  have d := Rat.mul_nonneg (show 0 ≤ x.f k by grind) (show 0 ≤ y.f k - q by grind)
  show p * q ≤ x.f k * y.f k
  grind
instance : OrderedRing Re where
  add_le_left_iff {a b} c := by
    obtain ⟨x, rfl⟩ := a.ex
    obtain ⟨y, rfl⟩ := b.ex
    obtain ⟨z, rfl⟩ := c.ex
    constructor
    · rintro ⟨C, hC⟩
      refine ⟨C, fun i => ?_⟩
      have := hC i
      show (x.f i + z.f i) - (y.f i + z.f i) ≤ _
      grind
    · rintro ⟨C, hC⟩
      refine ⟨C, fun i => ?_⟩
      have : (x.f i + z.f i) - (y.f i + z.f i) ≤ C * h i := hC i
      grind
  zero_lt_one := Re.lt_of (x := (cst 1).add (cst 0).neg) rfl (Sq.not_le_zero (q := 1) (i := 0) (by decide) fun j _ => by show (1 : Rat) ≤ 1 + -0; grind)
  mul_lt_mul_of_pos_left {a b c} l1 l2 := by
    obtain ⟨x, e1, h1⟩ := Re.sub_pos l1
    obtain ⟨y, e2, h2⟩ := Re.sub_pos l2
    refine Re.lt_of (x := y.mul x) ?_ (Re.mul_pos h2 h1)
    show _ = Re.of y * Re.of x
    rw [← e1, ← e2]
    grind
  mul_lt_mul_of_pos_right {a b c} l1 l2 := by
    obtain ⟨x, e1, h1⟩ := Re.sub_pos l1
    obtain ⟨y, e2, h2⟩ := Re.sub_pos l2
    refine Re.lt_of (x := x.mul y) ?_ (Re.mul_pos h1 h2)
    show _ = Re.of x * Re.of y
    rw [← e1, ← e2]
    grind
end Cox

/-! The numbers of the orders: 2 cos (pi / m), by halving intervals. -/
namespace Cox
open Lean.Grind
def Useq (a : Sq) : Nat → Sq
  | 0 => cst 1
  | 1 => a
  | k + 2 => (a.mul (Useq a (k + 1))).add (Useq a k).neg
theorem useq_f (a : Sq) (i : Nat) : ∀ k, (Useq a k).f i = U (a.f i) k
  | 0 => rfl
  | 1 => rfl
  | k + 2 => by
    show a.f i * (Useq a (k + 1)).f i + -(Useq a k).f i = a.f i * U (a.f i) (k + 1) - U (a.f i) k
    rw [useq_f a i (k + 1), useq_f a i k]
    grind
theorem useq_of (a : Sq) : ∀ k, U (Re.of a) k = Re.of (Useq a k)
  | 0 => rfl
  | 1 => rfl
  | k + 2 => by
    show Re.of a * U (Re.of a) (k + 1) - U (Re.of a) k = Re.of a * Re.of (Useq a (k + 1)) + -(Re.of (Useq a k))
    rw [useq_of a (k + 1), useq_of a k]
    grind
theorem of_nonneg {a : Sq} (hp : ∀ i, 0 ≤ a.f i) : 0 ≤ Re.of a := ⟨0, fun i => by
  have := hp i
  show 0 - a.f i ≤ 0 * h i
  grind⟩
theorem of_nonpos {a : Sq} (hp : ∀ i, a.f i ≤ 0) : Re.of a ≤ 0 := ⟨0, fun i => by
  have := hp i
  show a.f i - 0 ≤ 0 * h i
  grind⟩
/-! halving -/
structure Half (P : Rat → Rat) (lo hi : Rat) (w : Rat) : Prop where
  l : P lo ≤ 0
  r : 0 ≤ P hi
  d : hi = lo + w
def mid (P : Rat → Rat) (x w : Rat) : Rat := if P (x + w / 2) ≤ 0 then x + w / 2 else x
def bis (P : Rat → Rat) (lo w : Rat) : Nat → Rat
  | 0 => lo
  | i + 1 => mid P (bis P lo w i) (w * h i)
theorem bis_half {P : Rat → Rat} {lo w : Rat} (h1 : P lo ≤ 0) (h2 : 0 ≤ P (lo + w)) : ∀ i, P (bis P lo w i) ≤ 0 ∧ 0 ≤ P (bis P lo w i + w * h i)
  | 0 => ⟨h1, by show 0 ≤ P (lo + w * 1); rw [show w * 1 = w by grind]; exact h2⟩
  | i + 1 => by
    have ih := bis_half h1 h2 i
    have e : w * h (i + 1) = w * h i / 2 := by
      show w * (h i / 2) = _
      grind
    show P (mid P (bis P lo w i) (w * h i)) ≤ 0 ∧ 0 ≤ P (mid P (bis P lo w i) (w * h i) + w * h (i + 1))
    unfold mid
    rw [e]
    by_cases c : P (bis P lo w i + w * h i / 2) ≤ 0
    · rw [if_pos c]
      refine ⟨c, ?_⟩
      rw [show bis P lo w i + w * h i / 2 + w * h i / 2 = bis P lo w i + w * h i by grind]
      exact ih.2
    · rw [if_neg c]
      exact ⟨ih.1, by grind⟩
theorem bis_step {P : Rat → Rat} {lo w : Rat} (hw : 0 ≤ w) (i : Nat) : ∀ d, bis P lo w i ≤ bis P lo w (i + d) ∧ bis P lo w (i + d) + w * h (i + d) ≤ bis P lo w i + w * h i
  | 0 => ⟨Rat.le_refl, Rat.le_refl⟩
  | d + 1 => by
    have ih := bis_step hw i d (P := P) (lo := lo)
    have p := h_pos (i + d + 1)
    have e := h_succ (i + d)
    have z := Rat.mul_nonneg hw (show 0 ≤ h (i + d + 1) by grind)
    show bis P lo w i ≤ mid P (bis P lo w (i + d)) (w * h (i + d)) ∧ mid P (bis P lo w (i + d)) (w * h (i + d)) + w * h (i + d + 1) ≤ _
    unfold mid
    have e2 : w * h (i + d) / 2 = w * h (i + d + 1) := by
      rw [e]
      grind
    have e3 : w * h (i + d) = w * h (i + d + 1) + w * h (i + d + 1) := by rw [e]; grind
    rw [e2]
    split <;> grind
def bisq (P : Rat → Rat) (lo w : Rat) (hw : 0 ≤ w) : Sq := ⟨bis P lo w, w, fun i j hij => by
  obtain ⟨d, rfl⟩ : ∃ d, j = i + d := ⟨j - i, by omega⟩
  have a := bis_step hw i d (P := P) (lo := lo)
  have p := h_pos (i + d)
  have q := h_pos i
  have z := Rat.mul_nonneg hw (show 0 ≤ h (i + d) by grind)
  have y := Rat.mul_nonneg hw (show 0 ≤ h i by grind)
  grind⟩
theorem bis_in {P : Rat → Rat} {lo w : Rat} (hw : 0 ≤ w) (i : Nat) : lo ≤ bis P lo w i ∧ bis P lo w i ≤ lo + w := by
  have a := bis_step hw 0 i (P := P) (lo := lo)
  rw [Nat.zero_add] at a
  have p := h_pos i
  have z := Rat.mul_nonneg hw (show 0 ≤ h i by grind)
  have e : bis P lo w 0 = lo := rfl
  have e2 : h 0 = 1 := rfl
  rw [e, e2] at a
  grind
/-- where the sign of U n changes, it is 0 -/
theorem root_ex (n : Nat) (lo w : Rat) (hw : 0 ≤ w) (h1 : U lo n ≤ 0) (h2 : 0 ≤ U (lo + w) n) : ∃ a : Sq, (∀ i, lo ≤ a.f i ∧ a.f i ≤ lo + w) ∧ U (Re.of a) n = 0 := by
  refine ⟨bisq (fun x => U x n) lo w hw, bis_in hw, ?_⟩
  have b := bis_half (P := fun x => U x n) h1 h2
  have up : Re.of (bisq (fun x => U x n) lo w hw) = Re.of ((bisq (fun x => U x n) lo w hw).add ⟨fun i => w * h i, w, fun i j hij => by
      obtain ⟨d, rfl⟩ : ∃ d, j = i + d := ⟨j - i, by omega⟩
      have a := bis_step hw i d (P := fun _ => (0 : Rat)) (lo := 0)
      have anti : ∀ d : Nat, h (i + d) ≤ h i := fun d => by
        induction d with
        | zero => exact Rat.le_refl
        | succ d ih =>
          have b := h_succ (i + d)
          have p := h_pos (i + d + 1)
          show h (i + d + 1) ≤ h i
          grind
      have p := h_pos (i + d)
      have x := Rat.mul_nonneg hw (show 0 ≤ h i - h (i + d) by have := anti d; grind)
      have y := Rat.mul_nonneg hw (show 0 ≤ h (i + d) by grind)
      grind⟩) := Quotient.sound ⟨w, fun i => by
    have p := h_pos i
    have y := Rat.mul_nonneg hw (show 0 ≤ h i by grind)
    show bis _ lo w i - (bis _ lo w i + w * h i) ≤ w * h i ∧ (bis _ lo w i + w * h i) - bis _ lo w i ≤ w * h i
    grind⟩
  refine Std.IsPartialOrder.le_antisymm _ _ ?_ ?_
  · rw [useq_of]
    exact of_nonpos fun i => by rw [useq_f]; exact (b i).1
  · rw [up, useq_of]
    exact of_nonneg fun i => by rw [useq_f]; exact (b i).2
end Cox

/-! For each order the number that it stands for, with its signs; the numbers of three orders. -/
namespace Cox
open Lean.Grind
/-- bounds of U over an interval -/
def IU (lo hi : Rat) : Nat → Rat × Rat
  | 0 => (1, 1)
  | 1 => (lo, hi)
  | k + 2 => (lo * (IU lo hi (k + 1)).1 - (IU lo hi k).2, hi * (IU lo hi (k + 1)).2 - (IU lo hi k).1)
theorem iu_sound {lo hi b : Rat} (h0 : 0 ≤ lo) (h1 : lo ≤ b) (h2 : b ≤ hi) : ∀ k, (∀ j, j < k → 0 ≤ (IU lo hi j).1) → (IU lo hi k).1 ≤ U b k ∧ U b k ≤ (IU lo hi k).2
  | 0, _ => ⟨Rat.le_refl, Rat.le_refl⟩
  | 1, _ => ⟨h1, h2⟩
  | k + 2, hp => by
    have a := iu_sound h0 h1 h2 (k + 1) fun j hj => hp j (by omega)
    have c := iu_sound h0 h1 h2 k fun j hj => hp j (by omega)
    have p := hp (k + 1) (by omega)
    have x := Rat.mul_nonneg (show 0 ≤ b - lo by grind) p
    have y := Rat.mul_nonneg (show 0 ≤ b by grind) (show 0 ≤ U b (k + 1) - (IU lo hi (k + 1)).1 by grind)
    have z := Rat.mul_nonneg (show 0 ≤ hi - b by grind) (show 0 ≤ U b (k + 1) by grind)
    have u := Rat.mul_nonneg (show 0 ≤ hi by grind) (show 0 ≤ (IU lo hi (k + 1)).2 - U b (k + 1) by grind)
    show lo * (IU lo hi (k + 1)).1 - (IU lo hi k).2 ≤ b * U b (k + 1) - U b k ∧ b * U b (k + 1) - U b k ≤ hi * (IU lo hi (k + 1)).2 - (IU lo hi k).1
    grind
/-- what is asked of the number of an order -/
structure Num (m : Nat) (c : Re) : Prop where
  zero : ∀ n, m = n + 1 → U c n = 0
  pos : ∀ k, (m = 0 ∨ k < m) → 0 ≤ U c k
  one : ∀ k, (m = 0 ∨ k < m) → 1 ≤ U c k + Up c k
theorem u_norm {R : Type} [CommRing R] (b : R) : ∀ k, U b (k + 1) * U b (k + 1) - b * U b (k + 1) * U b k + U b k * U b k = 1
  | 0 => by show b * b - b * b * 1 + 1 * 1 = 1; grind
  | k + 1 => by
    have ih := u_norm b k
    show (b * U b (k + 1) - U b k) * (b * U b (k + 1) - U b k) - b * (b * U b (k + 1) - U b k) * U b (k + 1) + U b (k + 1) * U b (k + 1) = 1
    grind
/-- an order from 3 on, by an interval -/
theorem num_of (n : Nat) (lo hi : Rat) (h0 : 0 ≤ lo) (hw : lo ≤ hi) (h1 : U lo (n + 2) ≤ 0) (h2 : 0 ≤ U hi (n + 2)) (hp : ∀ k, k < n + 2 → 0 ≤ (IU lo hi k).1) (ho : ∀ k, k < n + 1 → 1 ≤ (IU lo hi (k + 1)).1 + (IU lo hi k).1) :
    ∃ a : Sq, (∀ i, lo ≤ a.f i ∧ a.f i ≤ hi) ∧ Num (n + 3) (Re.of a) := by
  obtain ⟨a, ha, hz⟩ := root_ex (n + 2) lo (hi - lo) (by grind) h1 (by rw [show lo + (hi - lo) = hi by grind]; exact h2)
  rw [show lo + (hi - lo) = hi by grind] at ha
  have low : ∀ k, k < n + 2 → ∀ i, (IU lo hi k).1 ≤ U (a.f i) k := fun k hk i => (iu_sound h0 (ha i).1 (ha i).2 k fun j hj => hp j (by omega)).1
  have pos : ∀ k, k < n + 2 → 0 ≤ U (Re.of a) k := fun k hk => by
    rw [useq_of]
    exact of_nonneg fun i => by
      rw [useq_f]
      exact Rat.le_trans (hp k hk) (low k hk i)
  refine ⟨a, ha, fun m hm => ?_, fun k hk => ?_, fun k hk => ?_⟩
  · have : m = n + 2 := by omega
    rw [this]
    exact hz
  · have hk := hk.resolve_left (by omega)
    by_cases c : k = n + 2
    · rw [c, hz]
      exact Std.IsPreorder.le_refl _
    · exact pos k (by omega)
  · have hk := hk.resolve_left (by omega)
    cases k with
    | zero =>
      show (1 : Re) ≤ 1 + 0
      grind
    | succ k =>
      show 1 ≤ U (Re.of a) (k + 1) + U (Re.of a) k
      by_cases c : k + 1 = n + 2
      · have hk2 : k = n + 1 := by omega
        subst hk2
        have nm := u_norm (Re.of a) (n + 1)
        have p := pos (n + 1) (by omega)
        rw [hz] at nm ⊢
        rcases Std.IsLinearPreorder.le_total (1 : Re) (U (Re.of a) (n + 1)) with l | l
        · grind
        · have q := OrderedRing.mul_nonneg (show (0 : Re) ≤ 1 - U (Re.of a) (n + 1) by grind) p
          have q2 : (1 - U (Re.of a) (n + 1)) * U (Re.of a) (n + 1) = U (Re.of a) (n + 1) - 1 := by grind
          rw [q2] at q
          grind
      · have s : 0 ≤ Re.of ((Useq a (k + 1)).add ((Useq a k).add (cst (-1)))) := of_nonneg fun i => by
          show 0 ≤ (Useq a (k + 1)).f i + ((Useq a k).f i + -1)
          rw [useq_f, useq_f]
          have x := low (k + 1) (by omega) i
          have y := low k (by omega) i
          have z := ho k (by omega)
          grind
        have e : Re.of ((Useq a (k + 1)).add ((Useq a k).add (cst (-1)))) = U (Re.of a) (k + 1) + (U (Re.of a) k + -1) := by
          rw [useq_of, useq_of]
          rfl
        rw [e] at s
        grind
/-- the bounds of the numbers, in parts of 2 ^ 30 -/
def low : Nat → Int
  | 3 => 1073741824
  | 4 => 1518500249
  | 5 => 1737350766
  | 6 => 1859775393
  | 7 => 1934815911
  | 8 => 1984016188
  | 9 => 2017974537
  | 10 => 2042378317
  | 11 => 2060495471
  | 12 => 2074309917
  | _ => 0
def loR (m : Nat) : Rat := mkRat (low m) (2 ^ 30)
def hiR (m : Nat) : Rat := mkRat (low m + 1) (2 ^ 30)
theorem checks : ∀ n : Fin 10, 0 ≤ loR (n.1 + 3) ∧ loR (n.1 + 3) ≤ hiR (n.1 + 3) ∧ U (loR (n.1 + 3)) (n.1 + 2) ≤ 0 ∧ 0 ≤ U (hiR (n.1 + 3)) (n.1 + 2) ∧ (∀ k : Fin (n.1 + 2), 0 ≤ (IU (loR (n.1 + 3)) (hiR (n.1 + 3)) k.1).1) ∧ (∀ k : Fin (n.1 + 1), 1 ≤ (IU (loR (n.1 + 3)) (hiR (n.1 + 3)) (k.1 + 1)).1 + (IU (loR (n.1 + 3)) (hiR (n.1 + 3)) k.1).1) := by decide +kernel
theorem num_big (m : Nat) (h3 : 3 ≤ m) (h12 : m ≤ 12) : ∃ a : Sq, (∀ i, loR m ≤ a.f i ∧ a.f i ≤ hiR m) ∧ Num m (Re.of a) := by
  obtain ⟨n, rfl⟩ : ∃ n, m = n + 3 := ⟨m - 3, by omega⟩
  obtain ⟨c1, c2, c3, c4, c5, c6⟩ := checks ⟨n, by omega⟩
  exact num_of n _ _ c1 c2 c3 c4 (fun k hk => c5 ⟨k, hk⟩) fun k hk => c6 ⟨k, hk⟩
theorem num_two : Num 2 (Re.of (cst 0)) := by
  have e : Re.of (cst 0) = (0 : Re) := rfl
  rw [e]
  refine ⟨fun n hn => ?_, fun k hk => ?_, fun k hk => ?_⟩
  · have : n = 1 := by omega
    subst this
    rfl
  · have hk := hk.resolve_left (by omega)
    match k, hk with
    | 0, _ => show (0 : Re) ≤ 1; grind
    | 1, _ => show (0 : Re) ≤ 0; grind
  · have hk := hk.resolve_left (by omega)
    match k, hk with
    | 0, _ => show (1 : Re) ≤ 1 + 0; grind
    | 1, _ => show (1 : Re) ≤ 0 + 1; grind
theorem num_none : Num 0 (Re.of (cst 2)) := by
  have e : Re.of (cst 2) = (2 : Re) := rfl
  rw [e]
  have up : ∀ k, 0 ≤ U (2 : Re) k ∧ U (2 : Re) (k + 1) = U (2 : Re) k + 1 := fun k => by
    induction k with
    | zero =>
      show (0 : Re) ≤ 1 ∧ (2 : Re) = 1 + 1
      grind
    | succ k ih =>
      obtain ⟨i1, i2⟩ := ih
      have s : U (2 : Re) (k + 2) = 2 * U 2 (k + 1) - U 2 k := rfl
      grind
  refine ⟨fun n hn => by omega, fun k _ => (up k).1, fun k _ => ?_⟩
  cases k with
  | zero => show (1 : Re) ≤ 1 + 0; grind
  | succ k =>
    show (1 : Re) ≤ U 2 (k + 1) + U 2 k
    have a := up k
    grind
end Cox

/-! The word theorem for three orders, each 0 or from 2 to 12. -/
namespace Cox
open Lean.Grind
/-- three things for the three pairs of letters, one for equal letters -/
def tri {α : Type} (d x01 x12 x02 : α) (i j : Fin 3) : α := if i = j then d else if i.1 + j.1 = 1 then x01 else if i.1 + j.1 = 3 then x12 else x02
theorem tri_sym {α : Type} (d x y z : α) (i j : Fin 3) : tri d x y z i j = tri d x y z j i := by
  unfold tri
  by_cases h : i = j
  · rw [if_pos h, if_pos h.symm]
  · rw [if_neg h, if_neg (show ¬ j = i from fun z => h z.symm), Nat.add_comm]
def om (a b c : Nat) : Fin 3 → Fin 3 → Nat := tri 0 a b c
def okOrd (m : Nat) : Prop := m = 0 ∨ 2 ≤ m ∧ m ≤ 12
/-- the bounds of the number of an order -/
def loN (m : Nat) : Rat := if m = 0 then 2 else if m = 2 then 0 else loR m
def hiN (m : Nat) : Rat := if m = 0 then 2 else if m = 2 then 0 else hiR m
theorem num_ex (m : Nat) (h : okOrd m) : ∃ a : Sq, (∀ i, loN m ≤ a.f i ∧ a.f i ≤ hiN m) ∧ Num m (Re.of a) := by
  unfold loN hiN
  rcases h with rfl | ⟨h2, h12⟩
  · exact ⟨cst 2, fun i => by rw [if_pos rfl, if_pos rfl]; exact ⟨Rat.le_refl, Rat.le_refl⟩, num_none⟩
  · by_cases c : m = 2
    · subst c
      exact ⟨cst 0, fun i => by simp only [if_neg (show ¬ (2 : Nat) = 0 by decide), if_true]; exact ⟨Rat.le_refl, Rat.le_refl⟩, num_two⟩
    · rw [if_neg (by omega), if_neg c, if_neg (by omega), if_neg c]
      exact num_big m (by omega) h12
theorem ord_of {a b c : Nat} {x y z : Re} (hx : Num a x) (hy : Num b y) (hz : Num c z) : Ord (om a b c) (tri (-2) x y z) := by
  have each : ∀ i j, i ≠ j → Num (om a b c i j) (tri (-2) x y z i j) := fun i j hij => by
    unfold om tri
    rw [if_neg hij, if_neg hij]
    by_cases c1 : i.1 + j.1 = 1
    · rw [if_pos c1, if_pos c1]; exact hx
    · rw [if_neg c1, if_neg c1]
      by_cases c2 : i.1 + j.1 = 3
      · rw [if_pos c2, if_pos c2]; exact hy
      · rw [if_neg c2, if_neg c2]; exact hz
  exact {
    two := fun i => by unfold tri; rw [if_pos rfl]
    sym := tri_sym _ _ _ _
    msym := tri_sym _ _ _ _
    zero := fun i j n hij hm => (each i j hij).zero n hm
    pos := fun i j k hij hk => (each i j hij).pos k hk
    one := fun i j k hij hk => (each i j hij).one k hk }
/-- for three orders: rational sequences near which their numbers lie -/
theorem ord_ex {a b c : Nat} (ha : okOrd a) (hb : okOrd b) (hc : okOrd c) : ∃ x y z : Sq, (∀ i, loN a ≤ x.f i ∧ x.f i ≤ hiN a) ∧ (∀ i, loN b ≤ y.f i ∧ y.f i ≤ hiN b) ∧ (∀ i, loN c ≤ z.f i ∧ z.f i ≤ hiN c) ∧
    Num a (Re.of x) ∧ Num b (Re.of y) ∧ Num c (Re.of z) ∧ Ord (om a b c) (tri (-2) (Re.of x) (Re.of y) (Re.of z)) := by
  obtain ⟨x, hx, nx⟩ := num_ex a ha
  obtain ⟨y, hy, ny⟩ := num_ex b hb
  obtain ⟨z, hz, nz⟩ := num_ex c hc
  exact ⟨x, y, z, hx, hy, hz, nx, ny, nz, ord_of nx ny nz⟩
/-- turns alone connect the shortest words of a tile -/
theorem word_turns {a b c : Nat} (ha : okOrd a) (hb : okOrd b) (hc : okOrd c) {u w : W} (hu : Red (om a b c) u) (hw : Red (om a b c) w) (h : Eqv (om a b c) u w) : Tn (om a b c) u w := by
  obtain ⟨x, y, z, _, _, _, _, _, _, O⟩ := ord_ex ha hb hc
  exact turns O _ u w rfl hu hw h
/-- turns lead from any other word to two equal letters next to each other -/
theorem word_cut {a b c : Nat} (ha : okOrd a) (hb : okOrd b) (hc : okOrd c) {w : W} (hw : ¬ Red (om a b c) w) : ∃ (u v : W) (s : Fin 3), Tn (om a b c) w (u ++ ([s, s] ++ v)) := by
  obtain ⟨x, y, z, _, _, _, _, _, _, O⟩ := ord_ex ha hb hc
  exact shorten O w hw
end Cox
#print axioms Cox.word_turns
#print axioms Cox.word_cut

/-! The program's depths, by integers: how wrong they are, and what their signs tell. -/
namespace Cox
open Lean.Grind
section
variable {R : Type} [CommRing R]
def stepG (c : Fin 3 → Fin 3 → R) (i : Fin 3) (d : Fin 3 → R) : Fin 3 → R := fun j => if j = i then -d i else d j + c i j * d i
def depG (c : Fin 3 → Fin 3 → R) (w : W) : Fin 3 → R := w.foldr (stepG c) (fun _ => 1)
def sumv (v : V3 R) : R := v 0 + v 1 + v 2
theorem sumv_lc (p q : R) (x y : V3 R) : sumv (lc p x q y) = p * sumv x + q * sumv y := by
  unfold sumv lc
  grind
theorem act_other {m : Fin 3 → Fin 3 → Nat} {c : Fin 3 → Fin 3 → R} (G : Geo m c) {i j : Fin 3} (hij : i ≠ j) : act c i (e j) = lc 1 (e j) (c i j) (e i) := by
  funext k
  unfold act bump lc
  have d : dot c i (e j) = c i j := by
    unfold dot e
    have h3 : j = 0 ∨ j = 1 ∨ j = 2 := by
      rcases j with ⟨j, hj⟩
      have : j = 0 ∨ j = 1 ∨ j = 2 := by omega
      rcases this with rfl | rfl | rfl
      · exact .inl rfl
      · exact .inr (.inl rfl)
      · exact .inr (.inr rfl)
    rcases h3 with rfl | rfl | rfl <;> simp <;> grind
  rw [d]
  unfold e
  by_cases h : k = i
  · simp only [if_pos h]; grind
  · simp only [if_neg h]; grind
theorem act_self {m : Fin 3 → Fin 3 → Nat} {c : Fin 3 → Fin 3 → R} (G : Geo m c) (s : Fin 3) : act c s (e s) = lc (-1) (e s) 0 (e s) := by
  have h2 := G.two s
  funext k
  unfold act bump lc
  have d : dot c s (e s) = c s s := by
    unfold dot e
    have h3 : s = 0 ∨ s = 1 ∨ s = 2 := by
      rcases s with ⟨s, hs⟩
      have : s = 0 ∨ s = 1 ∨ s = 2 := by omega
      rcases this with rfl | rfl | rfl
      · exact .inl rfl
      · exact .inr (.inl rfl)
      · exact .inr (.inr rfl)
    rcases h3 with rfl | rfl | rfl <;> simp <;> grind
  rw [d, h2]
  unfold e
  by_cases h : k = s
  · simp only [if_pos h]; grind
  · simp only [if_neg h]; grind
theorem sumv_e (j : Fin 3) : sumv (e j : V3 R) = 1 := by
  unfold sumv e
  have h3 : j = 0 ∨ j = 1 ∨ j = 2 := by
    rcases j with ⟨j, hj⟩
    have : j = 0 ∨ j = 1 ∨ j = 2 := by omega
    rcases this with rfl | rfl | rfl
    · exact .inl rfl
    · exact .inr (.inl rfl)
    · exact .inr (.inr rfl)
  rcases h3 with rfl | rfl | rfl <;> simp <;> grind
/-- a depth is the sum of a root's coordinates -/
theorem depG_root {m : Fin 3 → Fin 3 → Nat} {c : Fin 3 → Fin 3 → R} (G : Geo m c) : ∀ (w : W) (j : Fin 3), depG c w j = sumv (actw c w.reverse (e j))
  | [], j => (sumv_e j).symm
  | i :: w, j => by
    show stepG c i (depG c w) j = _
    rw [List.reverse_cons, actw_append]
    show _ = sumv (actw c w.reverse (act c i (e j)))
    unfold stepG
    by_cases hj : j = i
    · subst hj
      rw [if_pos rfl, act_self G, actw_lc, sumv_lc, depG_root G w j]
      grind
    · rw [if_neg hj, act_other G (fun z => hj z.symm), actw_lc, sumv_lc, depG_root G w j, depG_root G w i]
      grind
end
section
variable {R : Type} [CommRing R] [LE R] [LT R] [Std.LawfulOrderLT R] [Std.IsLinearOrder R] [OrderedRing R]
variable {m : Fin 3 → Fin 3 → Nat} {c : Fin 3 → Fin 3 → R}
theorem cons_reverse (w : W) (j : Fin 3) : ln m (j :: w) = ln m (w.reverse ++ [j]) := by
  rw [← ln_reverse, List.reverse_cons]
theorem dep_far (O : Ord m c) {w : W} {j : Fin 3} (h : ln m (j :: w) = ln m w + 1) : 1 ≤ depG c w j := by
  rw [depG_root O.toGeo]
  rw [cons_reverse, ← ln_reverse w] at h
  exact (root_pos O _ w.reverse j (Nat.le_refl _) h).2
theorem dep_near (O : Ord m c) {w : W} {j : Fin 3} (h : ln m w = ln m (j :: w) + 1) : depG c w j ≤ -1 := by
  rw [depG_root O.toGeo]
  rw [cons_reverse, ← ln_reverse w] at h
  obtain ⟨v, hv, e⟩ := root_neg O w.reverse j h
  rw [e, sumv_lc]
  have := hv.2
  have e : sumv v = v 0 + v 1 + v 2 := rfl
  grind
end
/-! members of sequences -/
def depS (c : Fin 3 → Fin 3 → Sq) : W → Fin 3 → Sq
  | [], _ => cst 1
  | i :: w, j => if j = i then (depS c w i).neg else (depS c w j).add ((c i j).mul (depS c w i))
theorem depS_of (c : Fin 3 → Fin 3 → Sq) (cR : Fin 3 → Fin 3 → Re) (hc : ∀ i j, i ≠ j → cR i j = Re.of (c i j)) : ∀ (w : W) (j : Fin 3), depG cR w j = Re.of (depS c w j)
  | [], j => rfl
  | i :: w, j => by
    show stepG cR i (depG cR w) j = Re.of (if j = i then (depS c w i).neg else (depS c w j).add ((c i j).mul (depS c w i)))
    unfold stepG
    by_cases hj : j = i
    · rw [if_pos hj, if_pos hj, depS_of c cR hc w i]
      rfl
    · rw [if_neg hj, if_neg hj, depS_of c cR hc w i, depS_of c cR hc w j, hc i j (fun z => hj z.symm)]
      rfl
theorem depS_f (c : Fin 3 → Fin 3 → Sq) (N : Nat) : ∀ (w : W) (j : Fin 3), (depS c w j).f N = depG (fun i j => (c i j).f N) w j
  | [], j => rfl
  | i :: w, j => by
    show (if j = i then (depS c w i).neg else (depS c w j).add ((c i j).mul (depS c w i))).f N = stepG (fun i j => (c i j).f N) i (depG (fun i j => (c i j).f N) w) j
    unfold stepG
    by_cases hj : j = i
    · rw [if_pos hj, if_pos hj]
      show -(depS c w i).f N = _
      rw [depS_f c N w i]
    · rw [if_neg hj, if_neg hj]
      show (depS c w j).f N + (c i j).f N * (depS c w i).f N = _
      rw [depS_f c N w i, depS_f c N w j]
theorem ge_member {a : Sq} (h1 : 1 ≤ Re.of a) : ∃ N, ∀ q : Rat, q = a.f N → 3 ≤ 4 * q := by
  obtain ⟨C, hC⟩ := (show (cst 1).le a from h1)
  obtain ⟨N, hN⟩ := h_small (1 / 4) (by decide +kernel) C
  refine ⟨N, fun q hq => ?_⟩
  have x : 1 - a.f N ≤ C * h N := hC N
  have f : (1 / 4 : Rat) * 4 = 1 := by decide +kernel
  grind
/-! the integers -/
def stepI (B : Fin 3 → Fin 3 → Int) (T : Int) (i : Fin 3) (D : Fin 3 → Int) : Fin 3 → Int := fun j => if j = i then -D i else D j + B i j * D i / T
def depI (B : Fin 3 → Fin 3 → Int) (T : Int) (w : W) : Fin 3 → Int := w.foldr (stepI B T) (fun _ => T)
theorem le_of_mul {t x y : Rat} (ht : 0 < t) (l : t * x ≤ t * y) : x ≤ y := by
  by_cases c : x ≤ y
  · exact c
  · have := Rat.mul_pos ht (show 0 < x - y by grind)
    grind
/-- one mirror: an error e becomes at most 3 e + 2 M + 3 -/
theorem err_step {T q b D c d M e : Rat} (hT : 0 < T) (h1 : q * T ≤ b * D) (h2 : b * D ≤ q * T + T) (hb : -2 ≤ b - T * c ∧ b - T * c ≤ 2) (hc : 0 ≤ c ∧ c ≤ 2) (hd : -M ≤ d ∧ d ≤ M) (he : -e ≤ D - T * d ∧ D - T * d ≤ e) (heT : e ≤ T) (e0 : 0 ≤ e) :
    -(2 * e + 2 * M + 3) ≤ q - T * (c * d) ∧ q - T * (c * d) ≤ 2 * e + 2 * M + 3 := by
  have p1 := mul_bd (a := c) (b := D - T * d) (B := 2) (D := e) (by grind) hc.2 he.1 he.2
  have p2 := mul_bd (a := -c) (b := D - T * d) (B := 2) (D := e) (by grind) (by grind) he.1 he.2
  have m1 := Rat.mul_nonneg (show 0 ≤ T by grind) (show 0 ≤ M - d by grind)
  have m2 := Rat.mul_nonneg (show 0 ≤ T by grind) (show 0 ≤ d + M by grind)
  have p3 := mul_bd (a := b - T * c) (b := D) (B := 2) (D := T * M + T) hb.1 hb.2 (by grind) (by grind)
  have p4 := mul_bd (a := -(b - T * c)) (b := D) (B := 2) (D := T * M + T) (by grind) (by grind) (by grind) (by grind)
  have u1 := Rat.mul_nonneg (show 0 ≤ T by grind) (show 0 ≤ 2 * e - c * (D - T * d) by grind)
  have u2 := Rat.mul_nonneg (show 0 ≤ T by grind) (show 0 ≤ 2 * e - -c * (D - T * d) by grind)
  constructor
  · refine le_of_mul hT ?_
    grind
  · refine le_of_mul hT ?_
    grind
end Cox

/-! Errors of all steps; the signs of the integers tell the lengths. -/
namespace Cox
open Lean.Grind
def p3 : Nat → Rat
  | 0 => 1
  | k + 1 => 3 * p3 k
theorem p3_ge : ∀ k, 1 ≤ p3 k
  | 0 => Rat.le_refl
  | k + 1 => by
    have := p3_ge k
    show 1 ≤ 3 * p3 k
    grind
theorem kp_mono (k : Nat) : (k : Rat) * p3 k ≤ ((k + 1 : Nat) : Rat) * p3 (k + 1) := by
  have a := p3_ge k
  have n : (0 : Rat) ≤ (k : Rat) := by grind
  have x := Rat.mul_nonneg n (show 0 ≤ p3 k by grind)
  show _ ≤ ((k + 1 : Nat) : Rat) * (3 * p3 k)
  have e : ((k + 1 : Nat) : Rat) * (3 * p3 k) = 3 * ((k : Rat) * p3 k) + 3 * p3 k := by grind
  rw [e]
  grind
theorem kp_le (k : Nat) : ∀ d, (k : Rat) * p3 k ≤ ((k + d : Nat) : Rat) * p3 (k + d)
  | 0 => Rat.le_refl
  | d + 1 => Rat.le_trans (kp_le k d) (kp_mono (k + d))
theorem floor_cast (b D T : Int) (hT : 0 < T) : (((b * D / T : Int)) : Rat) * (T : Rat) ≤ (b : Rat) * (D : Rat) ∧ (b : Rat) * (D : Rat) ≤ ((b * D / T : Int) : Rat) * (T : Rat) + (T : Rat) := by
  have a := Int.ediv_mul_le (b * D) (show T ≠ 0 by omega)
  have c := Int.lt_ediv_add_one_mul_self (b * D) hT
  have a2 : ((b * D / T * T : Int) : Rat) ≤ ((b * D : Int) : Rat) := Rat.intCast_le_intCast.mpr a
  have c2 : ((b * D : Int) : Rat) ≤ (((b * D / T + 1) * T : Int) : Rat) := Rat.intCast_le_intCast.mpr (by omega)
  rw [Rat.intCast_mul, Rat.intCast_mul] at a2
  rw [Rat.intCast_mul, Rat.intCast_mul, Rat.intCast_add] at c2
  have one : ((1 : Int) : Rat) = 1 := rfl
  rw [one] at c2
  refine ⟨a2, ?_⟩
  grind
structure Near (B : Fin 3 → Fin 3 → Int) (T : Int) (c : Fin 3 → Fin 3 → Rat) : Prop where
  b : ∀ i j, i ≠ j → -2 ≤ (B i j : Rat) - (T : Rat) * c i j ∧ (B i j : Rat) - (T : Rat) * c i j ≤ 2
  c : ∀ i j, i ≠ j → 0 ≤ c i j ∧ c i j ≤ 2
theorem err {B : Fin 3 → Fin 3 → Int} {T : Int} {c : Fin 3 → Fin 3 → Rat} (hT : 0 < T) (hn : Near B T c) (K : Nat) (hK : 2 * ((K : Rat) * p3 K) ≤ (T : Rat)) : ∀ w : W, w.length ≤ K → ∀ j, (-(2 * ((w.length : Rat) * p3 w.length)) ≤ (depI B T w j : Rat) - (T : Rat) * depG c w j ∧ (depI B T w j : Rat) - (T : Rat) * depG c w j ≤ 2 * ((w.length : Rat) * p3 w.length)) ∧ (-(p3 w.length) ≤ depG c w j ∧ depG c w j ≤ p3 w.length)
  | [], _, j => by
    have e1 : depI B T [] j = T := rfl
    have e2 : depG c [] j = 1 := rfl
    have e3 : p3 ([] : W).length = 1 := rfl
    have e4 : ((([] : W).length : Nat) : Rat) = 0 := rfl
    rw [e1, e2, e3, e4]
    grind
  | i :: w, hw, j => by
    have hw2 : w.length + 1 ≤ K := hw
    have ih := err hT hn K hK w (by omega)
    have hTr : (0 : Rat) < (T : Rat) := by
      have : ((0 : Int) : Rat) < (T : Rat) := Rat.intCast_lt_intCast.mpr hT
      exact this
    have p := p3_ge w.length
    have n : (0 : Rat) ≤ (w.length : Rat) := by grind
    have e0 := Rat.mul_nonneg n (show 0 ≤ p3 w.length by grind)
    have eT : 2 * ((w.length : Rat) * p3 w.length) ≤ (T : Rat) := by
      have x := kp_le w.length (K - w.length)
      rw [show w.length + (K - w.length) = K by omega] at x
      grind
    have eL : (((i :: w).length : Nat) : Rat) * p3 (i :: w).length = 3 * ((w.length : Rat) * p3 w.length) + 3 * p3 w.length := by
      show ((w.length + 1 : Nat) : Rat) * (3 * p3 w.length) = _
      grind
    have eP : p3 (i :: w).length = 3 * p3 w.length := rfl
    rw [eL, eP]
    have eI : depI B T (i :: w) j = stepI B T i (depI B T w) j := rfl
    have eD : depG c (i :: w) j = stepG c i (depG c w) j := rfl
    rw [eI, eD]
    unfold stepI stepG
    by_cases hj : j = i
    · rw [if_pos hj, if_pos hj]
      have a := ih i
      have ng : ((-depI B T w i : Int) : Rat) = -(depI B T w i : Rat) := Rat.intCast_neg _
      rw [ng]
      grind
    · rw [if_neg hj, if_neg hj]
      have a := ih i
      have d := ih j
      have hij : i ≠ j := fun z => hj z.symm
      have fl := floor_cast (B i j) (depI B T w i) T hT
      have es := err_step hTr fl.1 fl.2 (hn.b i j hij) (hn.c i j hij) a.2 a.1 eT (by grind)
      have ad : ((depI B T w j + B i j * depI B T w i / T : Int) : Rat) = (depI B T w j : Rat) + ((B i j * depI B T w i / T : Int) : Rat) := Rat.intCast_add _ _
      rw [ad]
      have c1 := mul_bd (a := c i j) (b := depG c w i) (B := 2) (D := p3 w.length) (by have := hn.c i j hij; grind) (hn.c i j hij).2 a.2.1 a.2.2
      have c2 := mul_bd (a := -c i j) (b := depG c w i) (B := 2) (D := p3 w.length) (by have := hn.c i j hij; grind) (by have := hn.c i j hij; grind) a.2.1 a.2.2
      grind
/-- the numbers that the program has for three orders, near to sequences with all that is asked -/
structure Fits (m : Fin 3 → Fin 3 → Nat) (B : Fin 3 → Fin 3 → Int) (T : Int) (K : Nat) : Prop where
  pos : 0 < T
  room : 8 * ((K : Rat) * p3 K) ≤ (T : Rat)
  seq : ∃ (c : Fin 3 → Fin 3 → Sq) (cR : Fin 3 → Fin 3 → Re), Ord m cR ∧ (∀ i j, i ≠ j → cR i j = Re.of (c i j)) ∧ ∀ N, Near B T fun i j => (c i j).f N
/-- the signs tell the lengths -/
theorem signs {m : Fin 3 → Fin 3 → Nat} {B : Fin 3 → Fin 3 → Int} {T : Int} {K : Nat} (F : Fits m B T K) {w : W} (hw : w.length ≤ K) (j : Fin 3) : (ln m (j :: w) = ln m w + 1 → 0 < depI B T w j) ∧ (ln m w = ln m (j :: w) + 1 → depI B T w j < 0) := by
  obtain ⟨c, cR, O, hc, hn⟩ := F.seq
  have hTr : (0 : Rat) < (T : Rat) := by
    have : ((0 : Int) : Rat) < (T : Rat) := Rat.intCast_lt_intCast.mpr F.pos
    exact this
  have k0 := p3_ge w.length
  have n0 : (0 : Rat) ≤ (w.length : Rat) := by grind
  have x0 := Rat.mul_nonneg n0 (show 0 ≤ p3 w.length by grind)
  have k1 := p3_ge K
  have n1 : (0 : Rat) ≤ (K : Rat) := by grind
  have x1 := Rat.mul_nonneg n1 (show 0 ≤ p3 K by grind)
  have rm := F.room
  have hK : 2 * ((K : Rat) * p3 K) ≤ (T : Rat) := by grind
  have le := kp_le w.length (K - w.length)
  rw [show w.length + (K - w.length) = K by omega] at le
  have root := depS_of c cR hc w j
  constructor
  · intro h
    have g := dep_far O h
    rw [root] at g
    obtain ⟨N, hN⟩ := ge_member g
    have q := hN _ rfl
    rw [depS_f] at q
    have er := (err F.pos (hn N) K hK w hw j).1
    have tq := Rat.mul_nonneg (show 0 ≤ (T : Rat) by grind) (show 0 ≤ 4 * depG (fun i j => (c i j).f N) w j - 3 by grind)
    have r : ((0 : Int) : Rat) < (depI B T w j : Rat) := by
      show (0 : Rat) < _
      grind
    exact Rat.intCast_lt_intCast.mp r
  · intro h
    have g := dep_near O h
    rw [root] at g
    have g2 : 1 ≤ Re.of (depS c w j).neg := by
      have e : Re.of (depS c w j).neg = -Re.of (depS c w j) := rfl
      rw [e]
      grind
    obtain ⟨N, hN⟩ := ge_member g2
    have q := hN _ rfl
    have e2 : (depS c w j).neg.f N = -(depS c w j).f N := rfl
    rw [e2, depS_f] at q
    have er := (err F.pos (hn N) K hK w hw j).1
    have tq := Rat.mul_nonneg (show 0 ≤ (T : Rat) by grind) (show 0 ≤ -4 * depG (fun i j => (c i j).f N) w j - 3 by grind)
    have r : (depI B T w j : Rat) < ((0 : Int) : Rat) := by
      show _ < (0 : Rat)
      grind
    exact Rat.intCast_lt_intCast.mp r
end Cox

/-! The program's bends: for each number of bits that is checked, they fit. -/
namespace Cox
open Lean.Grind
def sineF (double : Int) (T : Int) : Nat → Int × Int × Int × Int
  | 0 => (0, T, 0, 0)
  | k + 1 => match sineF double T k with
    | (before, value, sb, sl) => (value, double * value / T - before, sl, value + double * sl / T - sb)
def bendLoop (order : Nat) (T : Int) : Nat → Int → Int
  | 0, bend => bend
  | f + 1, bend => match sineF bend T (order - 1) with
    | (_, value, _, slope) => if value * T / slope ≤ 0 then bend else bendLoop order T f (bend - value * T / slope)
def bendF (order bits : Nat) : Int := if order = 0 then 2 * 2 ^ bits else bendLoop order (2 ^ bits) 40 (2 * 2 ^ bits)
def okB (w : Int) (n bits : Nat) : Bool :=
  let T : Int := 2 ^ bits
  let b := bendF (n + 3) bits
  let lo : Rat := mkRat (b - w) (2 ^ bits)
  let hi : Rat := mkRat (b + w) (2 ^ bits)
  decide (0 ≤ lo) && (decide (hi ≤ 2) && (decide (U lo (n + 2) ≤ 0) && (decide (0 ≤ U hi (n + 2)) && ((List.range (n + 2)).all (fun k => decide (0 ≤ (IU lo hi k).1)) && (List.range (n + 1)).all fun k => decide (1 ≤ (IU lo hi (k + 1)).1 + (IU lo hi k).1)))))
def okBits (bits : Nat) : Bool := (List.range 10).all fun n => okB 2 n bits
theorem nat_pos' {n : Nat} (h : 0 < n) : (0 : Rat) < (n : Rat) := by
  obtain ⟨k, rfl⟩ : ∃ k, n = k + 1 := ⟨n - 1, by omega⟩
  have e : ((k + 1 : Nat) : Rat) = (k : Rat) + 1 := Rat.natCast_add k 1
  have n : (0 : Rat) ≤ (k : Rat) := by grind
  rw [e]
  grind
theorem mk_mul (x : Int) (n : Nat) (hn : 0 < n) : ((n : Nat) : Rat) * mkRat x n = (x : Rat) := by
  rw [Rat.mkRat_eq_div]
  have p := nat_pos' hn
  have : ((n : Nat) : Rat) ≠ 0 := by grind
  grind
/-- an order's bend lies near the members of a sequence with all that is asked -/
theorem bend_ex {bits : Nat} (hb : okBits bits = true) (h2 : bendF 2 bits = 0) {m : Nat} (hm : okOrd m) : ∃ a : Sq, (∀ N, (-2 ≤ (bendF m bits : Rat) - (((2 ^ bits : Nat) : Int) : Rat) * a.f N ∧ (bendF m bits : Rat) - (((2 ^ bits : Nat) : Int) : Rat) * a.f N ≤ 2) ∧ (0 ≤ a.f N ∧ a.f N ≤ 2)) ∧ Num m (Re.of a) := by
  have T0 : 0 < 2 ^ bits := Nat.pow_pos (by decide)
  have cT : (((2 ^ bits : Nat) : Int) : Rat) = ((2 ^ bits : Nat) : Rat) := Rat.intCast_natCast _
  rw [cT]
  rcases hm with rfl | ⟨hm2, hm12⟩
  · refine ⟨cst 2, fun N => ?_, num_none⟩
    have e : bendF 0 bits = 2 * ((2 ^ bits : Nat) : Int) := by
      unfold bendF
      rw [if_pos rfl]
      simp
    have e2 : (bendF 0 bits : Rat) = 2 * ((2 ^ bits : Nat) : Rat) := by
      rw [e, Rat.intCast_mul, Rat.intCast_natCast]
      rfl
    rw [e2]
    show (-2 ≤ 2 * ((2 ^ bits : Nat) : Rat) - ((2 ^ bits : Nat) : Rat) * 2 ∧ 2 * ((2 ^ bits : Nat) : Rat) - ((2 ^ bits : Nat) : Rat) * 2 ≤ 2) ∧ ((0 : Rat) ≤ 2 ∧ (2 : Rat) ≤ 2)
    grind
  · by_cases c : m = 2
    · subst c
      refine ⟨cst 0, fun N => ?_, num_two⟩
      rw [h2]
      show (-2 ≤ ((0 : Int) : Rat) - ((2 ^ bits : Nat) : Rat) * 0 ∧ ((0 : Int) : Rat) - ((2 ^ bits : Nat) : Rat) * 0 ≤ 2) ∧ ((0 : Rat) ≤ 0 ∧ (0 : Rat) ≤ 2)
      have z : ((0 : Int) : Rat) = 0 := rfl
      rw [z]
      grind
    · obtain ⟨n, rfl⟩ : ∃ n, m = n + 3 := ⟨m - 3, by omega⟩
      have o := List.all_eq_true.mp hb n (List.mem_range.mpr (by omega))
      unfold okB at o
      simp only [Bool.and_eq_true, decide_eq_true_eq] at o
      obtain ⟨c1, c2, c3, c4, c5, c6⟩ := o
      have c5 := List.all_eq_true.mp c5
      have c6 := List.all_eq_true.mp c6
      have k1 := mk_mul (bendF (n + 3) bits - 2) (2 ^ bits) T0
      have k2 := mk_mul (bendF (n + 3) bits + 2) (2 ^ bits) T0
      have i1 : ((bendF (n + 3) bits - 2 : Int) : Rat) = (bendF (n + 3) bits : Rat) - 2 := Rat.intCast_sub _ _
      have i2 : ((bendF (n + 3) bits + 2 : Int) : Rat) = (bendF (n + 3) bits : Rat) + 2 := Rat.intCast_add _ _
      rw [i1] at k1
      rw [i2] at k2
      have tp : (0 : Rat) < ((2 ^ bits : Nat) : Rat) := nat_pos' T0
      obtain ⟨a, ha, na⟩ := num_of n (mkRat (bendF (n + 3) bits - 2) (2 ^ bits)) (mkRat (bendF (n + 3) bits + 2) (2 ^ bits)) c1 (le_of_mul tp (by rw [k1, k2]; grind)) c3 c4
        (fun k hk => of_decide_eq_true (c5 k (List.mem_range.mpr hk))) (fun k hk => of_decide_eq_true (c6 k (List.mem_range.mpr hk)))
      refine ⟨a, fun N => ?_, na⟩
      have x := ha N
      have u1 := Rat.mul_nonneg (show 0 ≤ ((2 ^ bits : Nat) : Rat) by grind) (show 0 ≤ a.f N - mkRat (bendF (n + 3) bits - 2) (2 ^ bits) by grind)
      have u2 := Rat.mul_nonneg (show 0 ≤ ((2 ^ bits : Nat) : Rat) by grind) (show 0 ≤ mkRat (bendF (n + 3) bits + 2) (2 ^ bits) - a.f N by grind)
      refine ⟨?_, Rat.le_trans c1 x.1, Rat.le_trans x.2 c2⟩
      grind
theorem fits {bits K : Nat} (hb : okBits bits = true) (h2 : bendF 2 bits = 0) (room : 8 * ((K : Rat) * p3 K) ≤ ((2 ^ bits : Nat) : Rat)) {a b c : Nat} (ha : okOrd a) (hb2 : okOrd b) (hc : okOrd c) :
    Fits (om a b c) (tri 0 (bendF a bits) (bendF b bits) (bendF c bits)) ((2 ^ bits : Nat) : Int) K := by
  have T0 : 0 < 2 ^ bits := Nat.pow_pos (by decide)
  obtain ⟨x, hx, nx⟩ := bend_ex hb h2 ha
  obtain ⟨y, hy, ny⟩ := bend_ex hb h2 hb2
  obtain ⟨z, hz, nz⟩ := bend_ex hb h2 hc
  refine ⟨by omega, by rw [Rat.intCast_natCast]; exact room, tri (cst 0) x y z, tri (-2) (Re.of x) (Re.of y) (Re.of z), ord_of nx ny nz, fun i j hij => ?_, fun N => ⟨fun i j hij => ?_, fun i j hij => ?_⟩⟩
  · unfold tri
    rw [if_neg hij, if_neg hij]
    split
    · rfl
    · split <;> rfl
  · unfold tri
    simp only [if_neg hij]
    split
    · exact (hx N).1
    · split
      · exact (hy N).1
      · exact (hz N).1
  · unfold tri
    simp only [if_neg hij]
    split
    · exact (hx N).2
    · split
      · exact (hy N).2
      · exact (hz N).2
/-- the sizes of the program: 128 letters each -/
theorem size_ok : ∀ s : Fin 8, okBits (256 * (s.1 + 1) + 32) = true ∧ bendF 2 (256 * (s.1 + 1) + 32) = 0 ∧ 8 * (((128 * (s.1 + 1) : Nat) : Rat) * p3 (128 * (s.1 + 1))) ≤ ((2 ^ (256 * (s.1 + 1) + 32) : Nat) : Rat) := by decide +kernel
end Cox

/-! The normal word: letter by letter the least one that shortens. -/
namespace Cox
open Lean.Grind
variable {m : Fin 3 → Fin 3 → Nat} {B : Fin 3 → Fin 3 → Int} {T : Int} {K : Nat}
/-- the least letter with a negative depth -/
def firstNeg (D : Fin 3 → Int) : Option (Fin 3) := if D 0 < 0 then some 0 else if D 1 < 0 then some 1 else if D 2 < 0 then some 2 else none
theorem three (j : Fin 3) : j = 0 ∨ j = 1 ∨ j = 2 := by
  rcases j with ⟨j, hj⟩
  have : j = 0 ∨ j = 1 ∨ j = 2 := by omega
  rcases this with rfl | rfl | rfl
  · exact .inl rfl
  · exact .inr (.inl rfl)
  · exact .inr (.inr rfl)
theorem firstNeg_none {D : Fin 3 → Int} (h : firstNeg D = none) (j : Fin 3) : ¬ D j < 0 := by
  unfold firstNeg at h
  split at h
  · cases h
  · split at h
    · cases h
    · split at h
      · cases h
      · rcases three j with rfl | rfl | rfl <;> assumption
theorem firstNeg_some {D : Fin 3 → Int} {i : Fin 3} (h : firstNeg D = some i) : D i < 0 ∧ ∀ j, D j < 0 → i ≤ j := by
  unfold firstNeg at h
  split at h
  · cases h
    exact ⟨by assumption, fun j _ => Fin.zero_le j⟩
  · split at h
    · cases h
      refine ⟨by assumption, fun j hj => ?_⟩
      rcases three j with rfl | rfl | rfl
      · contradiction
      · decide
      · decide
    · split at h
      · cases h
        refine ⟨by assumption, fun j hj => ?_⟩
        rcases three j with rfl | rfl | rfl
        · contradiction
        · contradiction
        · decide
      · cases h
def greedy (B : Fin 3 → Fin 3 → Int) (T : Int) : Nat → (Fin 3 → Int) → W
  | 0, _ => []
  | f + 1, D => match firstNeg D with
    | none => []
    | some i => i :: greedy B T f (stepI B T i D)
/-- the order of words of one length -/
def lx : W → W → Prop
  | [], _ => True
  | _ :: _, [] => False
  | a :: x, b :: y => a < b ∨ a = b ∧ lx x y
theorem neg_iff (F : Fits m B T K) {w : W} (hw : w.length ≤ K) (j : Fin 3) : depI B T w j < 0 ↔ ln m w = ln m (j :: w) + 1 := by
  obtain ⟨s1, s2⟩ := signs F hw j
  refine ⟨fun h => ?_, s2⟩
  have a := ln_snoc (m := m) w.reverse j
  rw [← cons_reverse, ln_reverse] at a
  rcases a with a | a
  · have := s1 a
    omega
  · exact a
theorem cons_cons (w : W) (i : Fin 3) : Eqv m (i :: i :: w) w := .step (.cut [] w i)
theorem first_ex {w : W} (h : ln m w ≠ 0) : ∃ j, ln m w = ln m (j :: w) + 1 := by
  obtain ⟨t, ht⟩ := last_ex (m := m) (w := w.reverse) (by rw [ln_reverse]; exact h)
  rw [← cons_reverse, ln_reverse] at ht
  exact ⟨t, ht⟩
/-- a first letter of a shortest word shortens -/
theorem first_red {w v : W} {i : Fin 3} (h : Eqv m w (i :: v)) (r : Red m (i :: v)) : ln m w = ln m (i :: w) + 1 ∧ Eqv m (i :: w) v ∧ Red m v := by
  have e : Eqv m (i :: w) v := (h.left [i]).trans (cons_cons v i)
  have rv : Red m v := (Red.part (u := [i]) (v := v) r).2
  refine ⟨?_, e, rv⟩
  rw [ln_eqv h, ln_eqv e, r, rv]
  rfl
theorem greedy_ok (F : Fits m B T K) : ∀ (f : Nat) (u : W), u.length + f ≤ K → ln m u ≤ f → Eqv m u (greedy B T f (depI B T u)) ∧ (greedy B T f (depI B T u)).length = ln m u ∧ ∀ v, Red m v → Eqv m u v → lx (greedy B T f (depI B T u)) v
  | 0, u, _, h => by
    have e : ln m u = 0 := by omega
    exact ⟨ln_zero e, e.symm, fun _ _ _ => trivial⟩
  | f + 1, u, hK, h => by
    unfold greedy
    cases c : firstNeg (depI B T u) with
    | none =>
      have e : ln m u = 0 := Classical.byContradiction fun z => by
        obtain ⟨j, hj⟩ := first_ex z
        exact firstNeg_none c j ((neg_iff F (by omega) j).mpr hj)
      exact ⟨ln_zero e, e.symm, fun _ _ _ => trivial⟩
    | some i =>
      obtain ⟨h1, h2⟩ := firstNeg_some c
      have d := (neg_iff F (by omega) i).mp h1
      have ih := greedy_ok F f (i :: u) (by rw [List.length_cons]; omega) (by omega)
      have eD : depI B T (i :: u) = stepI B T i (depI B T u) := rfl
      rw [eD] at ih
      obtain ⟨i1, i2, i3⟩ := ih
      refine ⟨(cons_cons u i).symm.trans (i1.left [i]), by rw [List.length_cons, i2]; omega, fun v rv hv => ?_⟩
      cases v with
      | nil =>
        have := ln_eqv hv
        rw [rv] at this
        simp at this
        omega
      | cons j v =>
        obtain ⟨a1, a2, a3⟩ := first_red hv rv
        have le := h2 j ((neg_iff F (by omega) j).mpr a1)
        by_cases e : i = j
        · subst e
          exact .inr ⟨rfl, i3 v a3 a2⟩
        · exact .inl (by
            have n : i.1 ≠ j.1 := fun z => e (Fin.ext z)
            have l : i.1 ≤ j.1 := le
            show i.1 < j.1
            omega)
end Cox
#print axioms Cox.greedy_ok

/-! What a search by turns finds. -/
namespace Cox
def NoSq (v : W) : Prop := ∀ (x y : W) (s : Fin 3), v ≠ x ++ ([s, s] ++ y)
theorem closed_tn {m : Fin 3 → Fin 3 → Nat} {S : W → Prop} (hc : ∀ u v, S u → Turn1 m u v → S v) {u v : W} (h : Tn m u v) (hu : S u) : S v := by
  induction h with
  | refl u => exact hu
  | more a _ ih => exact ih (hc _ _ hu a)
/-- a set of words that is closed under turns and holds no two equal letters next to each other is the set of all shortest words of a tile -/
theorem ring_all {a b c : Nat} (ha : okOrd a) (hb : okOrd b) (hc : okOrd c) {S : W → Prop} {w : W} (h0 : S w) (ht : ∀ u v, S u → Turn1 (om a b c) u v → S v) (he : ∀ u, S u → Eqv (om a b c) w u) (hn : ∀ u, S u → NoSq u) :
    Red (om a b c) w ∧ ∀ v, S v ↔ (Eqv (om a b c) w v ∧ Red (om a b c) v) := by
  have red : ∀ u, S u → Red (om a b c) u := fun u hu => Classical.byContradiction fun z => by
    obtain ⟨x, y, s, t⟩ := word_cut ha hb hc z
    exact hn _ (closed_tn ht t hu) x y s rfl
  exact ⟨red w h0, fun v => ⟨fun hv => ⟨he v hv, red v hv⟩, fun hv => closed_tn ht (word_turns ha hb hc (red w h0) hv.2 hv.1) h0⟩⟩
/-- two equal letters cut out -/
theorem cut_eqv {m : Fin 3 → Fin 3 → Nat} (x y : W) (s : Fin 3) : Eqv m (x ++ ([s, s] ++ y)) (x ++ y) := .step (.cut x y s)
/-- the order of words of one length is total and has at most one least word -/
theorem lx_antisymm : ∀ {u v : W}, u.length = v.length → lx u v → lx v u → u = v
  | [], [], _, _, _ => rfl
  | a :: x, b :: y, h, h1, h2 => by
    have hl : x.length = y.length := by simpa using h
    rcases h1 with h1 | ⟨e1, h1⟩
    · rcases h2 with h2 | ⟨e2, h2⟩
      · have a1 : a.1 < b.1 := h1
        have a2 : b.1 < a.1 := h2
        omega
      · have a1 : a.1 < b.1 := h1
        rw [e2] at a1
        omega
    · rcases h2 with h2 | ⟨e2, h2⟩
      · have a2 : b.1 < a.1 := h2
        rw [e1] at a2
        omega
      · rw [e1, lx_antisymm hl h1 h2]
/-- the ends of a tile are the last letters of its shortest words -/
theorem ends_iff {m : Fin 3 → Fin 3 → Nat} (w : W) (s : Fin 3) : ln m w = ln m (w ++ [s]) + 1 ↔ ∃ v, Eqv m w (v ++ [s]) ∧ Red m (v ++ [s]) := by
  constructor
  · intro h
    obtain ⟨v, hv, rv⟩ := red_ex (m := m) (w ++ [s])
    have e : Eqv m w (v ++ [s]) := (snoc_snoc w s).symm.trans (hv.right [s])
    refine ⟨v, e, ?_⟩
    unfold Red
    rw [← ln_eqv e, h, ln_eqv hv, rv, List.length_append]
    rfl
  · rintro ⟨v, e, r⟩
    have e2 : Eqv m (w ++ [s]) v := (e.right [s]).trans (snoc_snoc v s)
    rw [ln_eqv e, ln_eqv e2, r, r.part.1, List.length_append]
    rfl
/-- the program's ends, by depths of the word backwards -/
theorem ends_neg {m : Fin 3 → Fin 3 → Nat} {B : Fin 3 → Fin 3 → Int} {T : Int} {K : Nat} (F : Fits m B T K) {w : W} (hw : w.length ≤ K) (s : Fin 3) : depI B T w.reverse s < 0 ↔ ln m w = ln m (w ++ [s]) + 1 := by
  rw [neg_iff F (by rw [List.length_reverse]; exact hw), cons_reverse, List.reverse_reverse, ln_reverse]
end Cox

/-! Mirrors: how often a word's walls are a given one, counted by parity; what follows for lengths and sides. -/
namespace Cox
open Classical
variable {m : Fin 3 → Fin 3 → Nat}
/-- a wall taken back along a word -/
def cj (u t : W) : W := u.reverse ++ t ++ u
theorem cj_eqv {u t t' : W} (h : Eqv m t t') : Eqv m (cj u t) (cj u t') := h.app _ _
theorem cj_app (u v t : W) : cj (u ++ v) t = cj v (cj u t) := by simp [cj]
theorem cj_word {u v t : W} (h : Eqv m u v) : Eqv m (cj u t) (cj v t) := (h.rev.right t).mul h
theorem cj_iff {u t x : W} : Eqv m (cj u t) x ↔ Eqv m t (u ++ x ++ u.reverse) := by
  constructor
  · intro h
    have h1 := h.app u u.reverse
    have e : Eqv m (u ++ cj u t ++ u.reverse) t := by
      have a := (Eqv.inv_right (m := m) u).right (t ++ (u ++ u.reverse))
      have b := (Eqv.inv_right (m := m) u).left t
      rw [List.append_nil] at b
      have c := a.trans b
      simpa [cj] using c
    exact e.symm.trans h1
  · intro h
    have h1 : Eqv m (cj u t) (cj u (u ++ x ++ u.reverse)) := cj_eqv h
    have e : Eqv m (cj u (u ++ x ++ u.reverse)) x := by
      have a := (Eqv.inv_left (m := m) u).right (x ++ (u.reverse ++ u))
      have b := (Eqv.inv_left (m := m) u).left x
      rw [List.append_nil] at b
      have c := a.trans b
      simpa [cj] using c
    exact h1.trans e
/-- whether an odd number of the walls that a word crosses is a given one -/
noncomputable def od (m : Fin 3 → Fin 3 → Nat) : W → W → Bool
  | [], _ => false
  | s :: w, t => xor (decide (Eqv m t [s])) (od m w (cj [s] t))
theorem dec_congr {p q : Prop} [Decidable p] [Decidable q] (h : p ↔ q) : decide p = decide q := by
  by_cases hp : p
  · rw [decide_eq_true hp, decide_eq_true (h.1 hp)]
  · rw [decide_eq_false hp, decide_eq_false (fun z => hp (h.2 z))]
theorem od_congr : ∀ (w : W) {t t' : W}, Eqv m t t' → od m w t = od m w t'
  | [], _, _, _ => rfl
  | s :: w, t, t', h => by
    rw [od, od, od_congr w (cj_eqv h), dec_congr (p := Eqv m t [s]) (q := Eqv m t' [s]) ⟨fun z => h.symm.trans z, fun z => h.trans z⟩]
theorem od_append : ∀ (u v t : W), od m (u ++ v) t = xor (od m u t) (od m v (cj u t))
  | [], v, t => by simp [od, cj]
  | s :: u, v, t => by
    have e : cj (s :: u) t = cj u (cj [s] t) := cj_app [s] u t
    rw [List.cons_append, od, od, od_append u v, e, Bool.xor_assoc]
theorem cj_cancel (s : Fin 3) (t : W) : Eqv m (cj [s] (cj [s] t)) t := by
  have h := cj_word (m := m) (t := t) (Eqv.cancel s)
  have e : cj [s, s] t = cj [s] (cj [s] t) := cj_app [s] [s] t
  rw [← e]
  simpa [cj] using h
theorem od_cut (s : Fin 3) (w t : W) : od m (s :: s :: w) t = od m w t := by
  have h1 : decide (Eqv m (cj [s] t) [s]) = decide (Eqv m t [s]) := dec_congr (by
    rw [cj_iff]
    have e : Eqv m ([s] ++ [s] ++ [s].reverse) [s] := (Eqv.cancel s).right [s]
    exact ⟨fun h => h.trans e, fun h => h.trans e.symm⟩)
  rw [od, od, h1, od_congr w (cj_cancel s t)]
  cases decide (Eqv m t [s]) <;> cases od m w t <;> rfl
theorem od_inv : ∀ (u t : W), od m (u ++ u.reverse) t = false
  | [], _ => rfl
  | s :: u, t => by
    have e : s :: u ++ (s :: u).reverse = [s] ++ ((u ++ u.reverse) ++ [s]) := by simp
    rw [e, od_append, od_append, od_inv u]
    have h1 : od m [s] (cj (u ++ u.reverse) (cj [s] t)) = od m [s] (cj [s] t) := by
      refine od_congr _ ?_
      have := cj_word (m := m) (t := cj [s] t) (Eqv.inv_right u)
      simpa [cj] using this
    rw [h1]
    have h2 := od_cut (m := m) s [] t
    have h3 : od m ([s] ++ [s]) t = false := h2
    rw [od_append] at h3
    simpa using h3
/-- parity of a number of marks -/
def xs (f : Nat → Bool) : Nat → Bool
  | 0 => false
  | n + 1 => xor (f 0) (xs (fun k => f (k + 1)) n)
theorem xs_congr : ∀ (n : Nat) {f g : Nat → Bool}, (∀ k, f k = g k) → xs f n = xs g n
  | 0, _, _, _ => rfl
  | n + 1, f, g, h => by rw [xs, xs, h 0, xs_congr n (fun k => h (k + 1))]
theorem xs_add : ∀ (n k : Nat) (f : Nat → Bool), xs f (n + k) = xor (xs f n) (xs (fun i => f (n + i)) k)
  | 0, k, f => by simp [xs]
  | n + 1, k, f => by
    rw [show n + 1 + k = (n + k) + 1 by omega, xs, xs, xs_add n k, Bool.xor_assoc]
    rw [xs_congr k (f := fun i => f (n + i + 1)) (g := fun i => f (n + 1 + i)) (fun i => by rw [show n + i + 1 = n + 1 + i by omega])]
theorem od_alt : ∀ (n : Nat) (i j : Fin 3) (t : W), od m (alt i j n) t = xs (fun k => decide (Eqv m t (alt i j (2 * k + 1)))) n
  | 0, _, _, _ => rfl
  | n + 1, i, j, t => by
    rw [alt, od, xs, od_alt n j i]
    congr 1
    refine xs_congr n (fun k => dec_congr ?_)
    rw [cj_iff]
    have e : [i] ++ alt j i (2 * k + 1) ++ [i].reverse = alt i j (2 * (k + 1) + 1) := by
      have h := alt_snoc i j (2 * k + 2)
      have h2 : nth i j (2 * k + 2) = i := by rw [nth, if_pos (by omega)]
      rw [h2] at h
      rw [show 2 * (k + 1) + 1 = 2 * k + 2 + 1 by omega, h]
      rfl
    rw [e]
theorem alt_add (i j : Fin 3) (n : Nat) : ∀ k : Nat, alt i j (n + k) = alt i j n ++ alt (nth i j n) (nth i j (n + 1)) k := by
  induction n generalizing i j with
  | zero => intro k; simp [alt, nth]
  | succ n ih =>
    intro k
    rw [show n + 1 + k = (n + k) + 1 by omega, alt, ih, alt, nth_succ i j n, nth_succ i j (n + 1)]
    rfl
theorem alt_twice (i j : Fin 3) (n : Nat) : alt i j (n + n) = alt i j n ++ (alt j i n).reverse := by
  rw [alt_add, alt_reverse]
  by_cases h : n % 2 = 0
  · rw [if_pos h, nth, nth, if_pos h, if_neg (by omega)]
  · rw [if_neg h, nth, nth, if_neg h, if_pos (by omega)]
theorem od_turn {i j : Fin 3} {n : Nat} (h : Eqv m (alt i j n) (alt j i n)) (t : W) : od m (alt i j n) t = od m (alt j i n) t := by
  have e0 : Eqv m (alt i j (n + n)) [] := by
    rw [alt_twice]
    exact (h.right _).trans (Eqv.inv_right _)
  have per : ∀ k, Eqv m (alt i j (n + n + k)) (alt i j k) := fun k => by
    rw [alt_add]
    have z : nth i j (n + n) = i := by rw [nth, if_pos (by omega)]
    have z2 : nth i j (n + n + 1) = j := by rw [nth, if_neg (by omega)]
    rw [z, z2]
    exact e0.right _
  have h0 : od m (alt i j (n + n)) t = false := by
    rw [od_alt, xs_add]
    rw [xs_congr n (f := fun k => decide (Eqv m t (alt i j (2 * (n + k) + 1)))) (g := fun k => decide (Eqv m t (alt i j (2 * k + 1)))) (fun k => dec_congr (by
      have p := per (2 * k + 1)
      rw [show n + n + (2 * k + 1) = 2 * (n + k) + 1 by omega] at p
      exact ⟨fun z => z.trans p, fun z => z.trans p.symm⟩))]
    simp
  rw [alt_twice, od_append, od_congr _ (cj_word h)] at h0
  have h1 := od_inv (m := m) (alt j i n) t
  rw [od_append] at h1
  revert h0 h1
  cases od m (alt i j n) t <;> cases od m (alt j i n) t <;> cases od m (alt j i n).reverse (cj (alt j i n) t) <;> simp
theorem od_step {u v : W} (h : Step m u v) (t : W) : od m u t = od m v t := by
  cases h with
  | cut u v i => rw [od_append, od_append, od_cut]
  | turn u v i j h h0 =>
    have e : Eqv m (alt i j (m i j)) (alt j i (m i j)) := by
      have := Eqv.step (Step.turn (m := m) [] [] i j h h0)
      simpa using this
    rw [od_append, od_append, od_append, od_append, od_turn e, od_congr v (cj_word e)]
/-- the parity belongs to the tile -/
theorem od_eqv {u v : W} (h : Eqv m u v) (t : W) : od m u t = od m v t := by
  induction h with
  | refl u => rfl
  | step h => exact od_step h t
  | symm _ ih => exact ih.symm
  | trans _ _ a b => exact a.trans b
/-- a wall that is crossed an odd number of times stands at some letter -/
theorem od_split : ∀ (w t : W), od m w t = true → ∃ (x y : W) (s : Fin 3), w = x ++ s :: y ∧ Eqv m t (x ++ [s] ++ x.reverse)
  | [], t, h => by cases h
  | s :: w, t, h => by
    rw [od] at h
    by_cases c : Eqv m t [s]
    · exact ⟨[], w, s, rfl, by simpa using c⟩
    · rw [decide_eq_false c, Bool.false_xor] at h
      obtain ⟨x, y, r, rfl, e⟩ := od_split w _ h
      refine ⟨s :: x, y, r, rfl, ?_⟩
      rw [cj_iff] at e
      simpa using e
/-- a wall before a word whose letter it stands at cuts the letter out -/
theorem cut_out {t x y : W} {s : Fin 3} (e : Eqv m t (x ++ [s] ++ x.reverse)) : Eqv m (t ++ (x ++ s :: y)) (x ++ y) := by
  have h1 := e.right (x ++ s :: y)
  have h2 := ((Eqv.inv_left (m := m) x).app (x ++ [s]) (s :: y))
  have h3 := (Eqv.cancel (m := m) s).app x y
  have h4 : Eqv m (x ++ [s] ++ (x.reverse ++ x) ++ s :: y) (x ++ y) := h2.trans (by simpa using h3)
  exact h1.trans (by simpa using h4)
/-- a wall -/
def Wl (m : Fin 3 → Fin 3 → Nat) (t : W) : Prop := ∃ (u : W) (s : Fin 3), Eqv m t (u ++ [s] ++ u.reverse)
theorem Wl.sq {t : W} (h : Wl m t) : Eqv m (t ++ t) [] := by
  obtain ⟨u, s, e⟩ := h
  have h1 := cut_out (y := u.reverse) e
  have h2 : Eqv m (t ++ t) (t ++ (u ++ s :: u.reverse)) := by
    have := e.left t
    simpa using this
  exact h2.trans (h1.trans (Eqv.inv_right u))
theorem Wl.rev {t : W} (h : Wl m t) : Eqv m t.reverse t := by
  obtain ⟨u, s, e⟩ := h
  have h1 := e.rev
  have h2 : (u ++ [s] ++ u.reverse).reverse = u ++ [s] ++ u.reverse := by simp
  rw [h2] at h1
  exact h1.trans e.symm
theorem Wl.od {t : W} (h : Wl m t) : od m t t = true := by
  obtain ⟨u, s, e⟩ := h
  rw [od_eqv e, List.append_assoc, od_append, od_append]
  have k : Eqv m (cj u t) [s] := cj_iff.2 e
  have h1 : Cox.od m [s] (cj u t) = true := by
    show xor (decide (Eqv m (cj u t) [s])) false = true
    rw [decide_eq_true k]
    rfl
  have h2 : Cox.od m u.reverse (cj [s] (cj u t)) = Cox.od m u.reverse (cj u t) := od_congr _ ((cj_iff.2 (by
    have := (Eqv.cancel (m := m) s).right [s]
    exact k.trans this.symm)).trans k.symm)
  rw [h1, h2]
  have h3 := od_inv (m := m) u t
  rw [od_append] at h3
  revert h3
  cases Cox.od m u t <;> cases Cox.od m u.reverse (cj u t) <;> simp
theorem od_shorter {w t : W} (h : od m w t = true) : ln m (t ++ w) < ln m w := by
  obtain ⟨r, hr, rr⟩ := red_ex (m := m) w
  rw [od_eqv hr] at h
  obtain ⟨x, y, s, rfl, e⟩ := od_split r t h
  rw [ln_eqv (hr.left t), ln_eqv (cut_out e), ln_eqv hr, rr]
  have := ln_self (m := m) (x ++ y)
  simp only [List.length_append, List.length_cons] at *
  omega
/-- a wall parts a tile from the first one exactly if it is crossed an odd number of times -/
theorem od_iff {t : W} (h : Wl m t) (w : W) : od m w t = true ↔ ln m (t ++ w) < ln m w := by
  refine ⟨od_shorter, fun l => ?_⟩
  cases c : od m w t with
  | true => rfl
  | false =>
    exfalso
    have h1 : od m (t ++ w) t = true := by
      rw [od_append, h.od]
      have k : Eqv m (cj t t) t := (cj_iff.2 (by
        have a := (Eqv.inv_right (m := m) t).left t
        rw [List.append_nil] at a
        simpa using a.symm))
      rw [od_congr w k, c]
      rfl
    have h2 := od_shorter h1
    have e : Eqv m (t ++ (t ++ w)) w := by
      have := h.sq.right w
      simpa using this
    rw [ln_eqv e] at h2
    omega
/-- the walls on the way between two tiles -/
theorem od_between {t : W} (u v : W) : od m (u.reverse ++ v) (cj u t) = xor (od m u t) (od m v t) := by
  rw [od_append]
  have h1 := od_inv (m := m) u t
  rw [od_append] at h1
  have k : Eqv m (cj u.reverse (cj u t)) t := by
    have := cj_word (m := m) (t := t) (Eqv.inv_right u)
    rw [cj_app] at this
    simpa [cj] using this
  rw [od_congr v k]
  revert h1
  cases od m u t <;> cases od m u.reverse (cj u t) <;> simp
/-- the word of a wall: a half, a letter, the half backwards -/
theorem wall_mid {t r : W} (h : Wl m t) (e : Eqv m t r) (rr : Red m r) : ∃ (x y : W) (s : Fin 3), r = x ++ s :: y ∧ x.length = y.length ∧ Eqv m x.reverse y := by
  have h1 := h.od
  rw [od_eqv e] at h1
  obtain ⟨x, y, s, rfl, k⟩ := od_split r t h1
  have k2 : Eqv m (x ++ y) [] := ((e.symm.left t).trans h.sq |> fun z => (cut_out k).symm.trans z)
  have k3 : Eqv m x.reverse y := by
    have a := k2.left x.reverse
    have b := (Eqv.inv_left (m := m) x).right y
    rw [List.append_nil] at a
    rw [List.append_assoc] at b
    exact a.symm.trans b
  refine ⟨x, y, s, rfl, ?_, k3⟩
  have r1 := rr.part
  have r2 : Red m y := (Red.part (u := [s]) (v := y) r1.2).2
  have := ln_eqv k3
  rw [ln_reverse, r1.1, r2] at this
  exact this
theorem wall_of_mid {r x y : W} {s : Fin 3} (e : r = x ++ s :: y) (k : Eqv m x.reverse y) : Wl m r := ⟨x, s, by
  have := (k.symm.left (x ++ [s]))
  rw [e]
  simpa using this⟩
end Cox

/-! A mirror, the tile beyond its side, a third tile: what changes sides. -/
namespace Cox
variable {m : Fin 3 → Fin 3 → Nat}
theorem Eqv.left_inv (x y : W) : Eqv m (x.reverse ++ (x ++ y)) y := by
  have h := (Eqv.inv_left (m := m) x).right y
  simpa using h
structure Mir (m : Fin 3 → Fin 3 → Nat) (t h : W) (l : Fin 3) (wl be im : W) : Prop where
  w : Wl m wl
  a2 : Eqv m (be ++ [l] ++ be.reverse) (t ++ [l] ++ t.reverse)
  a3 : Eqv m (wl ++ t) (t ++ [l])
  a4 : Eqv m (wl ++ be) t
  a5 : Eqv m (wl ++ im) h
  a6 : ∀ x, ln m (wl ++ x) ≠ ln m x
  a7 : ln m (h.reverse ++ be) = ln m (h.reverse ++ t) + 1 ∨ ln m (h.reverse ++ t) = ln m (h.reverse ++ be) + 1
  a8 : ln m (h.reverse ++ t) < ln m (h.reverse ++ be) ↔ od m h wl = od m t wl
  a9 : Eqv m (im.reverse ++ be) (h.reverse ++ t)
  a10 : Eqv m (im.reverse ++ t) (h.reverse ++ be)
theorem mir {t h : W} {l : Fin 3} {wl be im : W} (hw : Eqv m wl (t ++ [l] ++ t.reverse)) (hb : Eqv m be (t ++ [l])) (hi : Eqv m im (wl ++ h)) : Mir m t h l wl be im := by
  have w : Wl m wl := ⟨t, l, hw⟩
  have ll : Eqv m [l, l] [] := .cancel l
  have sq : ∀ x, Eqv m (wl ++ (wl ++ x)) x := fun x => by
    have := w.sq.right x
    simpa using this
  have a3 : Eqv m (wl ++ t) (t ++ [l]) := by
    have h1 := hw.right t
    have h2 := (Eqv.inv_left (m := m) t).left (t ++ [l])
    rw [List.append_nil] at h2
    exact h1.trans (by simpa using h2)
  have a4 : Eqv m (wl ++ be) t := ((hb.trans a3.symm).left wl).trans (sq t)
  have a5 : Eqv m (wl ++ im) h := (hi.left wl).trans (sq h)
  have a2 : Eqv m (be ++ [l] ++ be.reverse) (t ++ [l] ++ t.reverse) := by
    have h1 : Eqv m (be ++ [l] ++ be.reverse) (t ++ [l] ++ [l] ++ (t ++ [l]).reverse) := (hb.right [l]).mul hb.rev
    have h2 := ll.app t ([l] ++ t.reverse)
    exact h1.trans (by simpa using h2)
  have a6 : ∀ x, ln m (wl ++ x) ≠ ln m x := fun x e => by
    have p1 := ln_parity (m := m) (wl ++ x)
    have p2 := ln_parity (m := m) x
    have p3 := hw.parity
    simp only [List.length_append, List.length_reverse, List.length_singleton] at p1 p3
    omega
  have e7 : ln m (h.reverse ++ be) = ln m (h.reverse ++ t ++ [l]) := ln_eqv (by
    have := hb.left h.reverse
    simpa using this)
  have a7 := ln_snoc (m := m) (h.reverse ++ t) l
  rw [← e7] at a7
  have k : Wl m (cj h wl) := ⟨h.reverse ++ t, l, by
    have := cj_eqv (u := h) hw
    simpa [cj] using this⟩
  have ky : Eqv m (cj h wl ++ (h.reverse ++ t)) (h.reverse ++ t ++ [l]) := by
    have h1 := (Eqv.inv_right (m := m) h).app (h.reverse ++ wl) t
    have h2 := a3.left h.reverse
    have h3 : Eqv m (cj h wl ++ (h.reverse ++ t)) (h.reverse ++ (wl ++ t)) := by simpa [cj] using h1
    exact h3.trans (by simpa using h2)
  have a8 : ln m (h.reverse ++ t) < ln m (h.reverse ++ be) ↔ od m h wl = od m t wl := by
    have h1 := od_iff k (h.reverse ++ t)
    rw [od_between, ln_eqv ky, ← e7] at h1
    constructor
    · intro c
      cases c1 : od m h wl <;> cases c2 : od m t wl
      · rfl
      · rw [c1, c2] at h1; have := h1.1 rfl; omega
      · rw [c1, c2] at h1; have := h1.1 rfl; omega
      · rfl
    · intro c
      rw [c] at h1
      have h2 : ¬ ln m (h.reverse ++ be) < ln m (h.reverse ++ t) := fun z => by
        have := h1.2 z
        rw [Bool.xor_self] at this
        cases this
      omega
  have a9 : Eqv m (im.reverse ++ be) (h.reverse ++ t) := by
    have h1 : Eqv m (im.reverse ++ be) ((wl ++ h).reverse ++ (wl ++ t)) := hi.rev.mul (hb.trans a3.symm)
    have h2 := (Eqv.inv_left (m := m) wl).app h.reverse t
    exact h1.trans (by simpa using h2)
  have a10 : Eqv m (im.reverse ++ t) (h.reverse ++ be) := by
    have h1 : Eqv m (im.reverse ++ t) ((wl ++ h).reverse ++ (wl ++ be)) := hi.rev.mul a4.symm
    have h2 := (Eqv.inv_left (m := m) wl).app h.reverse be
    exact h1.trans (by simpa using h2)
  exact ⟨w, a2, a3, a4, a5, a6, a7, a8, a9, a10⟩
end Cox

/-! The walls of a word as a list: how many are met an odd number of times. -/
namespace Cox
variable {m : Fin 3 → Fin 3 → Nat} {nf : W → W}
structure NF (m : Fin 3 → Fin 3 → Nat) (nf : W → W) : Prop where
  e : ∀ u : W, u.length ≤ 500 → Eqv m u (nf u)
  l : ∀ u : W, u.length ≤ 500 → (nf u).length ≤ u.length
  c : ∀ u v : W, u.length ≤ 500 → v.length ≤ 500 → Eqv m u v → nf u = nf v
def mirAt (nf : W → W) (w : W) (k : Nat) : W := nf (w.take k ++ (w.drop k).take 1 ++ (w.take k).reverse)
def mirs (nf : W → W) (w : W) : List W := (List.range w.length).map (mirAt nf w)
theorem mirs_snoc (w : W) (s : Fin 3) : mirs nf (w ++ [s]) = mirs nf w ++ [nf (w ++ [s] ++ w.reverse)] := by
  unfold mirs
  rw [List.length_append, List.length_singleton, List.range_succ, List.map_append]
  congr 1
  · apply List.map_congr_left
    intro k hk
    have hk := List.mem_range.mp hk
    unfold mirAt
    rw [List.take_append_of_le_length (by omega), List.drop_append_of_le_length (by omega), List.take_append_of_le_length (by rw [List.length_drop]; omega)]
  · simp [mirAt]
theorem mirs_len (w : W) : (mirs nf w).length = w.length := by simp [mirs]
theorem snoc_ind {p : W → Prop} (h0 : p []) (hs : ∀ w s, p w → p (w ++ [s])) : ∀ w, p w := fun w => by
  have : ∀ v : W, p v.reverse := fun v => by
    induction v with
    | nil => exact h0
    | cons s v ih => rw [List.reverse_cons]; exact hs _ _ ih
  have h := this w.reverse
  rwa [List.reverse_reverse] at h
theorem mirs_wall (hN : NF m nf) (w : W) (hw : w.length ≤ 60) : ∀ t ∈ mirs nf w, Wl m t ∧ t.length % 2 = 1 := by
  intro t ht
  unfold mirs at ht
  obtain ⟨k, hk, rfl⟩ := List.mem_map.mp ht
  have hk := List.mem_range.mp hk
  unfold mirAt
  have e1 : (w.drop k).take 1 = [w[k]'hk] := by
    rw [List.drop_eq_getElem_cons hk]
    rfl
  rw [e1]
  have l1 : (w.take k ++ [w[k]'hk] ++ (w.take k).reverse).length = 2 * k + 1 := by
    simp only [List.length_append, List.length_take, List.length_reverse, List.length_singleton]
    omega
  generalize w[k]'hk = s at l1 ⊢
  have e := hN.e (w.take k ++ [s] ++ (w.take k).reverse) (by omega)
  exact ⟨⟨w.take k, s, e.symm⟩, by rw [← e.parity, l1]; omega⟩
theorem mirs_nf (hN : NF m nf) (w : W) (hw : w.length ≤ 60) : ∀ t ∈ mirs nf w, nf t = t ∧ t.length ≤ 130 := by
  intro t ht
  unfold mirs at ht
  obtain ⟨k, hk, rfl⟩ := List.mem_map.mp ht
  unfold mirAt
  have l1 : (w.take k ++ (w.drop k).take 1 ++ (w.take k).reverse).length ≤ 121 := by
    simp only [List.length_append, List.length_take, List.length_reverse, List.length_drop]
    omega
  generalize w.take k ++ (w.drop k).take 1 ++ (w.take k).reverse = X at l1 ⊢
  have l2 := hN.l X (by omega)
  have l3 := (hN.e X (by omega)).symm
  exact ⟨hN.c (nf X) X (by omega) (by omega) l3, by omega⟩
open Classical in
theorem od_one (s : Fin 3) (x : W) : od m [s] x = true ↔ Eqv m x [s] := by
  show xor (decide (Eqv m x [s])) false = true ↔ _
  rw [Bool.xor_false, decide_eq_true_iff]
theorem od_count (hN : NF m nf) (w : W) : w.length ≤ 60 → ∀ t, nf t = t → t.length ≤ 500 → od m w t = decide ((mirs nf w).count t % 2 = 1) := by
  refine snoc_ind (p := fun w => w.length ≤ 60 → ∀ t, nf t = t → t.length ≤ 500 → od m w t = decide ((mirs nf w).count t % 2 = 1)) ?_ ?_ w
  · intro _ t _ _
    rfl
  · intro w s ih hl t ht ht2
    rw [List.length_append, List.length_singleton] at hl
    have l1 : (w ++ [s] ++ w.reverse).length ≤ 500 := by simp; omega
    rw [od_append, ih (by omega) t ht ht2, mirs_snoc, List.count_append, List.count_singleton]
    have e : od m [s] (cj w t) = decide (nf (w ++ [s] ++ w.reverse) = t) := by
      refine Bool.eq_iff_iff.2 ((od_one s (cj w t)).trans (Iff.trans (cj_iff.trans ⟨fun h => ?_, fun h => ?_⟩) decide_eq_true_iff.symm))
      · rw [← ht]
        exact hN.c _ _ l1 ht2 h.symm
      · rw [← h]
        exact (hN.e _ l1).symm
    rw [e]
    by_cases c : nf (w ++ [s] ++ w.reverse) = t
    · rw [decide_eq_true c, if_pos (by simpa using c)]
      by_cases c2 : List.count t (mirs nf w) % 2 = 1
      · rw [decide_eq_true c2, decide_eq_false (by omega)]; rfl
      · rw [decide_eq_false c2, decide_eq_true (by omega)]; rfl
    · rw [decide_eq_false c, if_neg (by simpa using c), Nat.add_zero, Bool.xor_false]
theorem count_nodup {α : Type} [BEq α] [LawfulBEq α] : ∀ {l : List α}, l.Nodup → ∀ {x : α}, x ∈ l → l.count x = 1
  | y :: l, h, x, hx => by
    rw [List.nodup_cons] at h
    rw [List.count_cons]
    rcases Classical.em (y = x) with c | c
    · subst c
      rw [List.count_eq_zero_of_not_mem h.1]
      simp
    · have hx2 : x ∈ l := by
        rcases List.mem_cons.mp hx with e | e
        · exact absurd e.symm c
        · exact e
      rw [count_nodup h.2 hx2]
      simp [c]
theorem mirs_nodup (hN : NF m nf) (w : W) : w.length ≤ 60 → Red m w → (mirs nf w).Nodup := by
  refine snoc_ind (p := fun w => w.length ≤ 60 → Red m w → (mirs nf w).Nodup) ?_ ?_ w
  · intro _ _
    exact List.nodup_nil
  · intro w s ih hl r
    rw [List.length_append, List.length_singleton] at hl
    have r1 := r.part.1
    have ih := ih (by omega) r1
    rw [mirs_snoc]
    have l1 : (w ++ [s] ++ w.reverse).length ≤ 500 := by simp; omega
    have l2 := hN.l _ l1
    rw [List.nodup_append]
    refine ⟨ih, by simp, ?_⟩
    rintro x hx y hy rfl
    rw [List.mem_singleton] at hy
    have h1 := od_count hN w (by omega) x (by rw [hy]; exact hN.c _ _ (by omega) l1 (hN.e _ l1).symm) (by rw [hy]; omega)
    rw [count_nodup ih hx] at h1
    have h2 := od_shorter (m := m) (show od m w x = true by rw [h1]; rfl)
    have e : Eqv m (x ++ w) (w ++ [s]) := by
      have a := (hN.e _ l1).symm.right w
      rw [← hy] at a
      have b := (Eqv.inv_left (m := m) w).left (w ++ [s])
      rw [List.append_nil] at b
      exact a.trans (by simpa using b)
    rw [ln_eqv e, r, r1, List.length_append] at h2
    simp at h2
    omega
theorem sub_len {α : Type} [BEq α] [LawfulBEq α] : ∀ {l l' : List α}, l.Nodup → (∀ x ∈ l, x ∈ l') → l.length ≤ l'.length
  | [], _, _, _ => Nat.zero_le _
  | x :: l, l', h, k => by
    rw [List.nodup_cons] at h
    have hx := k x List.mem_cons_self
    have := sub_len (l := l) (l' := l'.erase x) h.2 (fun y hy => (List.mem_erase_of_ne (fun z => h.1 (by rw [← z]; exact hy))).2 (k y (List.mem_cons_of_mem _ hy)))
    rw [List.length_erase_of_mem hx] at this
    have := List.length_pos_of_mem hx
    rw [List.length_cons]
    omega
theorem dup_ex {α : Type} [BEq α] [LawfulBEq α] : ∀ {l : List α}, ¬ l.Nodup → ∃ x, x ∈ l ∧ ∀ y, y ∈ l → y ∈ l.erase x
  | [], h => absurd List.nodup_nil h
  | x :: l, h => by
    rcases Classical.em (x ∈ l) with c | c
    · refine ⟨x, List.mem_cons_self, fun y hy => ?_⟩
      rw [List.erase_cons_head]
      rcases List.mem_cons.mp hy with rfl | e
      · exact c
      · exact e
    · have h2 : ¬ l.Nodup := fun z => h (List.nodup_cons.2 ⟨c, z⟩)
      obtain ⟨z, hz, hy⟩ := dup_ex h2
      have ne : x ≠ z := fun e => c (by rw [e]; exact hz)
      refine ⟨z, List.mem_cons_of_mem _ hz, fun y hy2 => ?_⟩
      rw [List.erase_cons_tail (by simpa using ne)]
      rcases List.mem_cons.mp hy2 with rfl | e
      · exact List.mem_cons_self
      · exact List.mem_cons_of_mem _ (hy y e)
/-- the distinct walls of a word: as many as are met an odd number of times as the tile's word has letters -/
theorem odd_len (hN : NF m nf) {w : W} (hw : w.length ≤ 60) {ks : List W} (hk : ks.Nodup) (hm : ∀ t, t ∈ ks ↔ t ∈ mirs nf w) :
    (ks.filter fun t => decide ((mirs nf w).count t % 2 = 1)).length = ln m w := by
  obtain ⟨r, hr, rr⟩ := red_ex (m := m) w
  have lr : r.length ≤ 60 := by
    have := ln_self (m := m) w
    rw [ln_eqv hr, rr] at this
    omega
  have nd := mirs_nodup hN r lr rr
  have key : ∀ t, (t ∈ ks.filter fun t => decide ((mirs nf w).count t % 2 = 1)) ↔ t ∈ mirs nf r := fun t => by
    rw [List.mem_filter, hm]
    constructor
    · rintro ⟨h1, h2⟩
      obtain ⟨n1, n2⟩ := mirs_nf hN w hw t h1
      rw [← od_count hN w hw t n1 (by omega), od_eqv hr, od_count hN r lr t n1 (by omega)] at h2
      have h2 := of_decide_eq_true h2
      exact List.count_pos_iff.mp (by omega)
    · intro h1
      obtain ⟨n1, n2⟩ := mirs_nf hN r lr t h1
      have h3 := od_count hN r lr t n1 (by omega)
      rw [count_nodup nd h1, ← od_eqv hr, od_count hN w hw t n1 (by omega)] at h3
      have h4 : decide ((mirs nf w).count t % 2 = 1) = true := h3
      have h5 := of_decide_eq_true h4
      exact ⟨List.count_pos_iff.mp (by omega), h4⟩
  have a := sub_len (hk.filter _) (fun x hx => (key x).1 hx)
  have b := sub_len nd (fun x hx => (key x).2 hx)
  rw [mirs_len] at a b
  rw [ln_eqv hr, rr]
  omega
theorem all_len (hN : NF m nf) {w : W} (hw : w.length ≤ 60) {ks : List W} (hk : ks.Nodup) (hm : ∀ t, t ∈ ks ↔ t ∈ mirs nf w) : ln m w = w.length ↔ ks.length = w.length := by
  constructor
  · intro h
    have a := sub_len hk (fun x hx => (hm x).1 hx)
    have b := sub_len (mirs_nodup hN w hw h) (fun x hx => (hm x).2 hx)
    rw [mirs_len] at a b
    omega
  · intro h
    have o := odd_len hN hw hk hm
    by_cases nd : (mirs nf w).Nodup
    · have e : (ks.filter fun t => decide ((mirs nf w).count t % 2 = 1)) = ks := by
        rw [List.filter_eq_self]
        intro t ht
        rw [count_nodup nd ((hm t).1 ht)]
        rfl
      rw [e] at o
      omega
    · exfalso
      obtain ⟨x, hx, hy⟩ := dup_ex nd
      have a := sub_len hk (l' := (mirs nf w).erase x) (fun y hk => hy y ((hm y).1 hk))
      rw [List.length_erase_of_mem hx, mirs_len] at a
      have := List.length_pos_of_mem hx
      rw [mirs_len] at this
      omega
theorem end_odd (hN : NF m nf) {w : W} (hw : w.length ≤ 60) (s : Fin 3) : (mirs nf w).count (nf (w ++ [s] ++ w.reverse)) % 2 = 1 ↔ ln m w = ln m (w ++ [s]) + 1 := by
  have l1 : (w ++ [s] ++ w.reverse).length ≤ 500 := by simp; omega
  have l2 := hN.l _ l1
  have e1 := (hN.e _ l1).symm
  have h1 := od_count hN w hw (nf (w ++ [s] ++ w.reverse)) (hN.c _ _ (by omega) l1 e1) (by omega)
  have h2 := od_iff (m := m) (t := nf (w ++ [s] ++ w.reverse)) ⟨w, s, e1⟩ w
  have e : Eqv m (nf (w ++ [s] ++ w.reverse) ++ w) (w ++ [s]) := by
    have a := e1.right w
    have b := (Eqv.inv_left (m := m) w).left (w ++ [s])
    rw [List.append_nil] at b
    exact a.trans (by simpa using b)
  rw [h1, ln_eqv e, decide_eq_true_eq] at h2
  rw [h2]
  have := ln_snoc (m := m) w s
  omega
end Cox

/-! The walls along a way, and the walls that part two tiles. -/
namespace Cox
variable {m : Fin 3 → Fin 3 → Nat} {nf : W → W}
theorem mem_mirs (hN : NF m nf) {w x : W} (hw : w.length ≤ 60) (r : Red m w) : x ∈ mirs nf w ↔ nf x = x ∧ x.length ≤ 400 ∧ od m w x = true := by
  constructor
  · intro h
    obtain ⟨h1, h2⟩ := mirs_nf hN w hw x h
    refine ⟨h1, by omega, ?_⟩
    rw [od_count hN w hw x h1 (by omega), count_nodup (mirs_nodup hN w hw r) h]
    rfl
  · rintro ⟨h1, h2, h3⟩
    rw [od_count hN w hw x h1 (by omega)] at h3
    have h4 := of_decide_eq_true h3
    exact List.count_pos_iff.mp (by omega)
theorem ltr_of {w : W} {k : Nat} (hk : k < w.length) : (w.drop k).take 1 = [w[k]] := by
  rw [List.drop_eq_getElem_cons hk]
  rfl
def wlsC (nf : W → W) (t w : W) : List W := (List.range w.length).map fun k => nf (t ++ w.take k ++ (w.drop k).take 1 ++ (t ++ w.take k).reverse)
theorem wlsC_map (hN : NF m nf) {t w : W} (ht : t.length ≤ 60) (hw : w.length ≤ 60) : wlsC nf t w = (mirs nf w).map fun x => nf (t ++ x ++ t.reverse) := by
  unfold wlsC mirs
  rw [List.map_map]
  apply List.map_congr_left
  intro k hk
  have hk := List.mem_range.mp hk
  show _ = nf (t ++ mirAt nf w k ++ t.reverse)
  unfold mirAt
  rw [ltr_of hk]
  have l1 : (w.take k ++ [w[k]] ++ (w.take k).reverse).length ≤ 121 := by simp; omega
  have l2 := hN.l _ (show (w.take k ++ [w[k]] ++ (w.take k).reverse).length ≤ 500 by omega)
  refine hN.c _ _ (by simp; omega) (by simp only [List.length_append, List.length_reverse]; omega) ?_
  have h := ((hN.e (w.take k ++ [w[k]] ++ (w.take k).reverse) (by omega)).left t).right t.reverse
  simpa using h
theorem conj_inj {t x y : W} (h : Eqv m (t ++ x ++ t.reverse) (t ++ y ++ t.reverse)) : Eqv m x y := by
  have h1 := cj_iff.2 (show Eqv m (t ++ x ++ t.reverse) (t ++ x ++ t.reverse) from .refl _)
  have h1 : Eqv m (cj t (t ++ x ++ t.reverse)) x := cj_iff.2 (.refl _)
  have h2 : Eqv m (cj t (t ++ y ++ t.reverse)) y := cj_iff.2 (.refl _)
  exact h1.symm.trans ((cj_eqv h).trans h2)
theorem wlsC_nodup (hN : NF m nf) {t w : W} (ht : t.length ≤ 60) (hw : w.length ≤ 60) (r : Red m w) : (wlsC nf t w).Nodup := by
  rw [wlsC_map hN ht hw]
  refine List.pairwise_map.mpr (List.Pairwise.imp_of_mem (fun {x y} hx hy ne e => ?_) (mirs_nodup hN w hw r))
  obtain ⟨x1, x2⟩ := mirs_nf hN w hw x hx
  obtain ⟨y1, y2⟩ := mirs_nf hN w hw y hy
  apply ne
  have lx : (t ++ x ++ t.reverse).length ≤ 500 := by simp only [List.length_append, List.length_reverse]; omega
  have ly : (t ++ y ++ t.reverse).length ≤ 500 := by simp only [List.length_append, List.length_reverse]; omega
  have h := (hN.e _ lx).trans ((show Eqv m (nf (t ++ x ++ t.reverse)) (nf (t ++ y ++ t.reverse)) by rw [e]; exact .refl _).trans (hN.e _ ly).symm)
  rw [← x1, ← y1]
  exact hN.c _ _ (by omega) (by omega) (conj_inj h)
theorem mem_wlsC (hN : NF m nf) {t w x : W} (ht : t.length ≤ 60) (hw : w.length ≤ 60) (r : Red m w) : x ∈ wlsC nf t w ↔ nf x = x ∧ x.length ≤ 260 ∧ od m w (cj t x) = true := by
  rw [wlsC_map hN ht hw]
  constructor
  · intro h
    obtain ⟨y, hy, rfl⟩ := List.mem_map.mp h
    obtain ⟨y1, y2, y3⟩ := (mem_mirs hN hw r).1 hy
    have y4 := (mirs_nf hN w hw y hy).2
    have ly : (t ++ y ++ t.reverse).length ≤ 250 := by simp only [List.length_append, List.length_reverse]; omega
    have e := hN.e (t ++ y ++ t.reverse) (by omega)
    have l := hN.l (t ++ y ++ t.reverse) (by omega)
    refine ⟨hN.c _ _ (by omega) (by omega) e.symm, by omega, ?_⟩
    rw [od_congr w (cj_iff.2 e.symm), y3]
  · rintro ⟨h1, h2, h3⟩
    have l : (cj t x).length ≤ 500 := by
      unfold cj
      simp only [List.length_append, List.length_reverse]
      omega
    have e := hN.e _ l
    have l2 := hN.l _ l
    have l3 : (cj t x).length ≤ 380 := by
      unfold cj
      simp only [List.length_append, List.length_reverse]
      omega
    refine List.mem_map.mpr ⟨nf (cj t x), ?_, ?_⟩
    · have n : nf (nf (cj t x)) = nf (cj t x) := hN.c _ _ (by omega) l e.symm
      have o : od m w (nf (cj t x)) = true := by rw [← od_congr w e]; exact h3
      rw [od_count hN w hw _ n (by omega)] at o
      have h4 := of_decide_eq_true o
      exact List.count_pos_iff.mp (by omega)
    · exact Eq.trans (hN.c _ _ (by simp only [List.length_append, List.length_reverse]; omega) (by omega) (cj_iff.1 e).symm) h1
/-- the walls that lie ahead of one of two tiles and not of the other one -/
def dueW (p q : List W) : List W := (p.filter fun x => decide (x ∉ q)) ++ (q.filter fun x => decide (x ∉ p))
theorem mem_dueW {p q : List W} {x : W} : x ∈ dueW p q ↔ xor (decide (x ∈ p)) (decide (x ∈ q)) = true := by
  unfold dueW
  rw [List.mem_append, List.mem_filter, List.mem_filter, decide_eq_true_iff, decide_eq_true_iff]
  by_cases h1 : x ∈ p <;> by_cases h2 : x ∈ q <;> simp [h1, h2]
theorem dueW_nodup {p q : List W} (hp : p.Nodup) (hq : q.Nodup) : (dueW p q).Nodup := by
  unfold dueW
  rw [List.nodup_append]
  refine ⟨hp.filter _, hq.filter _, ?_⟩
  rintro x hx y hy rfl
  rw [List.mem_filter, decide_eq_true_iff] at hx hy
  exact hy.2 hx.1
theorem perm_ext' {α : Type} [BEq α] [LawfulBEq α] : ∀ {p q : List α}, p.Nodup → q.Nodup → (∀ x, x ∈ p ↔ x ∈ q) → p.Perm q
  | [], [], _, _, _ => .nil
  | [], y :: q, _, _, h => absurd ((h y).2 List.mem_cons_self) (by simp)
  | x :: p, q, hp, hq, h => by
    rw [List.nodup_cons] at hp
    have hx : x ∈ q := (h x).1 List.mem_cons_self
    have k := List.perm_cons_erase hx
    refine (List.Perm.cons x (perm_ext' hp.2 (hq.erase x) fun y => ?_)).trans k.symm
    rw [hq.mem_erase_iff]
    constructor
    · intro hy
      exact ⟨fun e => hp.1 (by rw [← e]; exact hy), (h y).1 (List.mem_cons_of_mem _ hy)⟩
    · rintro ⟨h1, h2⟩
      rcases List.mem_cons.mp ((h y).2 h2) with e | e
      · exact absurd e h1
      · exact e
theorem parting_perm (hN : NF m nf) (hR : ∀ u : W, u.length ≤ 500 → Red m (nf u)) {u v : W} (hu : u.length ≤ 30) (hv : v.length ≤ 30) : (wlsC nf u (nf (u.reverse ++ v))).Perm (dueW (mirs nf (nf u)) (mirs nf (nf v))) := by
  have lu := hN.l u (by omega)
  have lv := hN.l v (by omega)
  have lw := hN.l (u.reverse ++ v) (by simp; omega)
  have lw2 : (nf (u.reverse ++ v)).length ≤ 60 := by
    rw [List.length_append, List.length_reverse] at lw
    omega
  have ru := hR u (by omega)
  have rv := hR v (by omega)
  have rw' := hR (u.reverse ++ v) (by simp; omega)
  refine perm_ext' (wlsC_nodup hN (by omega) lw2 rw') (dueW_nodup (mirs_nodup hN _ (by omega) ru) (mirs_nodup hN _ (by omega) rv)) fun x => ?_
  rw [mem_wlsC hN (by omega) lw2 rw', mem_dueW]
  have o : od m (nf (u.reverse ++ v)) (cj u x) = xor (od m (nf u) x) (od m (nf v) x) := by
    rw [← od_eqv (hN.e (u.reverse ++ v) (by simp; omega)), od_between, od_eqv (hN.e u (by omega)), od_eqv (hN.e v (by omega))]
  rw [o]
  constructor
  · rintro ⟨h1, h2, h3⟩
    have e1 : decide (x ∈ mirs nf (nf u)) = od m (nf u) x := by
      rw [Bool.eq_iff_iff, decide_eq_true_iff, mem_mirs hN (by omega) ru]
      exact ⟨fun h => h.2.2, fun h => ⟨h1, by omega, h⟩⟩
    have e2 : decide (x ∈ mirs nf (nf v)) = od m (nf v) x := by
      rw [Bool.eq_iff_iff, decide_eq_true_iff, mem_mirs hN (by omega) rv]
      exact ⟨fun h => h.2.2, fun h => ⟨h1, by omega, h⟩⟩
    rw [e1, e2]
    exact h3
  · intro h
    have hx : x ∈ mirs nf (nf u) ∨ x ∈ mirs nf (nf v) := by
      by_cases h1 : x ∈ mirs nf (nf u)
      · exact .inl h1
      · by_cases h2 : x ∈ mirs nf (nf v)
        · exact .inr h2
        · rw [decide_eq_false h1, decide_eq_false h2] at h
          cases h
    have hx2 : nf x = x ∧ x.length ≤ 130 := by
      rcases hx with h | h
      · exact mirs_nf hN _ (by omega) x h
      · exact mirs_nf hN _ (by omega) x h
    have e1 : decide (x ∈ mirs nf (nf u)) = od m (nf u) x := by
      rw [Bool.eq_iff_iff, decide_eq_true_iff, mem_mirs hN (by omega) ru]
      exact ⟨fun h => h.2.2, fun h => ⟨hx2.1, by omega, h⟩⟩
    have e2 : decide (x ∈ mirs nf (nf v)) = od m (nf v) x := by
      rw [Bool.eq_iff_iff, decide_eq_true_iff, mem_mirs hN (by omega) rv]
      exact ⟨fun h => h.2.2, fun h => ⟨hx2.1, by omega, h⟩⟩
    rw [e1, e2] at h
    exact ⟨hx2.1, by omega, h⟩
theorem near_od (hN : NF m nf) (hL : ∀ u : W, u.length ≤ 500 → (nf u).length = ln m u) {t u : W} (ht : Wl m t) (lt : t.length ≤ 300) (hu : u.length ≤ 60) :
    decide ((nf u).length < (nf (t ++ u)).length) = !decide (nf t ∈ mirs nf (nf u)) := by
  have lu := hN.l u (by omega)
  have l2 := hN.l t (by omega)
  have ru : Red m (nf u) := by
    show ln m (nf u) = (nf u).length
    rw [hL u (by omega), ← ln_eqv (hN.e u (by omega))]
  have et := hN.e t (by omega)
  have nn : nf (nf t) = nf t := hN.c _ _ (by omega) (by omega) et.symm
  rw [hL u (by omega), hL (t ++ u) (by simp; omega)]
  have h := od_iff ht u
  have o : od m (nf u) (nf t) = od m u t := by rw [← od_congr (nf u) et, ← od_eqv (hN.e u (by omega))]
  have e1 : nf t ∈ mirs nf (nf u) ↔ od m u t = true := by
    constructor
    · intro h1
      have := (mem_mirs hN (by omega) ru).1 h1
      rw [← o]
      exact this.2.2
    · intro h1
      rw [← o] at h1
      rw [od_count hN (nf u) (by omega) _ nn (by omega)] at h1
      have h4 := of_decide_eq_true h1
      exact List.count_pos_iff.mp (by omega)
  have ne : ln m (t ++ u) ≠ ln m u := fun e => by
    obtain ⟨a, s, hw⟩ := ht
    have p1 := ln_parity (m := m) (t ++ u)
    have p2 := ln_parity (m := m) u
    have p3 := hw.parity
    simp only [List.length_append, List.length_reverse, List.length_singleton] at p1 p3
    omega
  rw [Bool.eq_iff_iff, decide_eq_true_iff, Bool.not_eq_true', decide_eq_false_iff_not, e1, h]
  omega
end Cox

/-! The program's roots, by integers: how wrong they are, what the signs of their sums tell; the letter that is left out. -/
namespace Cox
open Lean.Grind
section
variable {m : Fin 3 → Fin 3 → Nat}
/-- the first letter of a word is the one that is left out -/
theorem left_first {x s : Fin 3} {v : W} (r : Red m v) (hv : ln m (v ++ [s]) = ln m v + 1) (hx : ln m (x :: v) = ln m (x :: (v ++ [s])) + 1) : Eqv m (x :: (v ++ [s])) v := by
  have w : Wl m (x :: v ++ [s] ++ (x :: v).reverse) := ⟨x :: v, s, .refl _⟩
  have e : Eqv m (x :: v ++ [s] ++ (x :: v).reverse ++ (x :: v)) (x :: v ++ [s]) := by
    have := (Eqv.inv_left (m := m) (x :: v)).left (x :: v ++ [s])
    rw [List.append_nil] at this
    simpa using this
  have o : od m (x :: v) (x :: v ++ [s] ++ (x :: v).reverse) = true := by
    rw [od_iff w, ln_eqv e]
    show ln m (x :: (v ++ [s])) < _
    omega
  obtain ⟨p, q, r0, e1, e2⟩ := od_split _ _ o
  have c := cut_out (y := q) e2
  rw [← e1] at c
  have k : Eqv m (x :: (v ++ [s])) (p ++ q) := e.symm.trans c
  cases p with
  | nil =>
    injection e1 with _ e3
    subst e3
    exact k
  | cons a p =>
    injection e1 with e4 e3
    subst e4
    exfalso
    have k2 : Eqv m (v ++ [s]) (p ++ q) := by
      have h := k.left [x]
      have h1 : Eqv m ([x] ++ (x :: (v ++ [s]))) (v ++ [s]) := .step (.cut [] (v ++ [s]) x)
      have h2 : Eqv m ([x] ++ (x :: p ++ q)) (p ++ q) := .step (.cut [] (p ++ q) x)
      exact h1.symm.trans (h.trans h2)
    have l1 := ln_eqv k2
    have l2 := ln_self (m := m) (p ++ q)
    have l3 : v.length = p.length + q.length + 1 := by rw [e3]; simp; omega
    have r : ln m v = v.length := r
    rw [List.length_append] at l2
    omega
end
/-! the same at the rational numbers and at the integers -/
section
variable {R : Type} [CommRing R]
theorem act_self2 {c : Fin 3 → Fin 3 → R} (h2 : ∀ i, c i i = -2) (s : Fin 3) : act c s (e s) = lc (-1) (e s) 0 (e s) := by
  have h2 := h2 s
  funext k
  unfold act bump lc
  have d : dot c s (e s) = c s s := by
    unfold dot e
    have h3 : s = 0 ∨ s = 1 ∨ s = 2 := by
      rcases s with ⟨s, hs⟩
      have : s = 0 ∨ s = 1 ∨ s = 2 := by omega
      rcases this with rfl | rfl | rfl
      · exact .inl rfl
      · exact .inr (.inl rfl)
      · exact .inr (.inr rfl)
    rcases h3 with rfl | rfl | rfl <;> simp <;> grind
  rw [d, h2]
  unfold e
  by_cases h : k = s
  · simp only [if_pos h]; grind
  · simp only [if_neg h]; grind
theorem act_other2 {c : Fin 3 → Fin 3 → R} {i j : Fin 3} (hij : i ≠ j) : act c i (e j) = lc 1 (e j) (c i j) (e i) := by
  funext k
  unfold act bump lc
  have d : dot c i (e j) = c i j := by
    unfold dot e
    have h3 : j = 0 ∨ j = 1 ∨ j = 2 := by
      rcases j with ⟨j, hj⟩
      have : j = 0 ∨ j = 1 ∨ j = 2 := by omega
      rcases this with rfl | rfl | rfl
      · exact .inl rfl
      · exact .inr (.inl rfl)
      · exact .inr (.inr rfl)
    rcases h3 with rfl | rfl | rfl <;> simp <;> grind
  rw [d]
  unfold e
  by_cases h : k = i
  · simp only [if_pos h]; grind
  · simp only [if_neg h]; grind
theorem depG_root2 {c : Fin 3 → Fin 3 → R} (h2 : ∀ i, c i i = -2) : ∀ (w : W) (j : Fin 3), depG c w j = sumv (actw c w.reverse (e j))
  | [], j => (sumv_e j).symm
  | i :: w, j => by
    show stepG c i (depG c w) j = _
    rw [List.reverse_cons, actw_append]
    show _ = sumv (actw c w.reverse (act c i (e j)))
    unfold stepG
    by_cases hj : j = i
    · subst hj
      rw [if_pos rfl, act_self2 h2, actw_lc, sumv_lc, depG_root2 h2 w j]
      grind
    · rw [if_neg hj, act_other2 (fun z => hj z.symm), actw_lc, sumv_lc, depG_root2 h2 w j, depG_root2 h2 w i]
      grind
end
/-- the sum that makes a root's new coordinate -/
def othI (B : Fin 3 → Fin 3 → Int) (i : Fin 3) (D : Fin 3 → Int) : Int := if i = 0 then B 0 1 * D 1 + B 0 2 * D 2 else if i = 1 then B 1 0 * D 0 + B 1 2 * D 2 else B 2 0 * D 0 + B 2 1 * D 1
def actI (B : Fin 3 → Fin 3 → Int) (T : Int) (i : Fin 3) (D : Fin 3 → Int) : Fin 3 → Int := fun k => if k = i then othI B i D / T - D i else D k
def rootI (B : Fin 3 → Fin 3 → Int) (T : Int) (w : W) (s : Fin 3) : Fin 3 → Int := w.foldr (actI B T) fun k => if k = s then T else 0
def p5 : Nat → Rat
  | 0 => 1
  | k + 1 => 5 * p5 k
theorem p5_ge : ∀ k, 1 ≤ p5 k
  | 0 => Rat.le_refl
  | k + 1 => by
    have := p5_ge k
    show 1 ≤ 5 * p5 k
    grind
/-- two products and one floor -/
theorem err_two {T q b1 b2 D1 D2 c1 c2 d1 d2 M e : Rat} (hT : 0 < T) (h1 : q * T ≤ b1 * D1 + b2 * D2) (h2 : b1 * D1 + b2 * D2 ≤ q * T + T) (hb1 : -2 ≤ b1 - T * c1 ∧ b1 - T * c1 ≤ 2) (hb2 : -2 ≤ b2 - T * c2 ∧ b2 - T * c2 ≤ 2) (hc1 : 0 ≤ c1 ∧ c1 ≤ 2) (hc2 : 0 ≤ c2 ∧ c2 ≤ 2)
    (hd1 : -M ≤ d1 ∧ d1 ≤ M) (hd2 : -M ≤ d2 ∧ d2 ≤ M) (he1 : -e ≤ D1 - T * d1 ∧ D1 - T * d1 ≤ e) (he2 : -e ≤ D2 - T * d2 ∧ D2 - T * d2 ≤ e) (heT : e ≤ T) (e0 : 0 ≤ e) :
    -(4 * e + 4 * M + 5) ≤ q - T * (c1 * d1 + c2 * d2) ∧ q - T * (c1 * d1 + c2 * d2) ≤ 4 * e + 4 * M + 5 := by
  have t0 : 0 ≤ T := by grind
  have p1 := mul_bd (a := c1) (b := D1 - T * d1) (B := 2) (D := e) (by grind) hc1.2 he1.1 he1.2
  have p2 := mul_bd (a := -c1) (b := D1 - T * d1) (B := 2) (D := e) (by grind) (by grind) he1.1 he1.2
  have r1 := mul_bd (a := c2) (b := D2 - T * d2) (B := 2) (D := e) (by grind) hc2.2 he2.1 he2.2
  have r2 := mul_bd (a := -c2) (b := D2 - T * d2) (B := 2) (D := e) (by grind) (by grind) he2.1 he2.2
  have m1 := Rat.mul_nonneg t0 (show 0 ≤ M - d1 by grind)
  have m2 := Rat.mul_nonneg t0 (show 0 ≤ d1 + M by grind)
  have m3 := Rat.mul_nonneg t0 (show 0 ≤ M - d2 by grind)
  have m4 := Rat.mul_nonneg t0 (show 0 ≤ d2 + M by grind)
  have p3 := mul_bd (a := b1 - T * c1) (b := D1) (B := 2) (D := T * M + T) hb1.1 hb1.2 (by grind) (by grind)
  have p4 := mul_bd (a := -(b1 - T * c1)) (b := D1) (B := 2) (D := T * M + T) (by grind) (by grind) (by grind) (by grind)
  have r3 := mul_bd (a := b2 - T * c2) (b := D2) (B := 2) (D := T * M + T) hb2.1 hb2.2 (by grind) (by grind)
  have r4 := mul_bd (a := -(b2 - T * c2)) (b := D2) (B := 2) (D := T * M + T) (by grind) (by grind) (by grind) (by grind)
  have u1 := Rat.mul_nonneg t0 (show 0 ≤ 2 * e - c1 * (D1 - T * d1) by grind)
  have u2 := Rat.mul_nonneg t0 (show 0 ≤ 2 * e - -c1 * (D1 - T * d1) by grind)
  have v1 := Rat.mul_nonneg t0 (show 0 ≤ 2 * e - c2 * (D2 - T * d2) by grind)
  have v2 := Rat.mul_nonneg t0 (show 0 ≤ 2 * e - -c2 * (D2 - T * d2) by grind)
  constructor
  · refine le_of_mul hT ?_
    grind
  · refine le_of_mul hT ?_
    grind
def two' (c : Fin 3 → Fin 3 → Rat) : Fin 3 → Fin 3 → Rat := fun i j => if i = j then -2 else c i j
theorem depG_two (c : Fin 3 → Fin 3 → Rat) : ∀ (w : W) (j : Fin 3), depG (two' c) w j = depG c w j
  | [], _ => rfl
  | i :: w, j => by
    show stepG (two' c) i (depG (two' c) w) j = stepG c i (depG c w) j
    unfold stepG
    by_cases hj : j = i
    · rw [if_pos hj, if_pos hj, depG_two c w i]
    · rw [if_neg hj, if_neg hj, depG_two c w i, depG_two c w j]
      unfold two'
      rw [if_neg (fun z => hj z.symm)]
theorem errR {B : Fin 3 → Fin 3 → Int} {T : Int} {c : Fin 3 → Fin 3 → Rat} (hT : 0 < T) (hn : Near B T c) (K : Nat) (hK : ∀ k, k ≤ K → 2 * ((k : Rat) * p5 k) ≤ (T : Rat)) (s : Fin 3) : ∀ w : W, w.length ≤ K → ∀ k, (-(2 * ((w.length : Rat) * p5 w.length)) ≤ (rootI B T w s k : Rat) - (T : Rat) * actw (two' c) w (e s) k ∧ (rootI B T w s k : Rat) - (T : Rat) * actw (two' c) w (e s) k ≤ 2 * ((w.length : Rat) * p5 w.length)) ∧ (-(p5 w.length) ≤ actw (two' c) w (e s) k ∧ actw (two' c) w (e s) k ≤ p5 w.length)
  | [], _, k => by
    have e1 : rootI B T [] s k = if k = s then T else 0 := rfl
    have e2 : actw (two' c) [] (e s) k = if k = s then 1 else 0 := rfl
    have e3 : p5 ([] : W).length = 1 := rfl
    have e4 : ((([] : W).length : Nat) : Rat) = 0 := rfl
    rw [e1, e2, e3, e4]
    by_cases h : k = s
    · rw [if_pos h, if_pos h]
      grind
    · rw [if_neg h, if_neg h]
      have z : ((0 : Int) : Rat) = 0 := rfl
      rw [z]
      grind
  | i :: w, hw, k => by
    have hw2 : w.length + 1 ≤ K := hw
    have ih := errR hT hn K hK s w (by omega)
    have hTr : (0 : Rat) < (T : Rat) := by
      have : ((0 : Int) : Rat) < (T : Rat) := Rat.intCast_lt_intCast.mpr hT
      exact this
    have p := p5_ge w.length
    have n : (0 : Rat) ≤ (w.length : Rat) := by grind
    have e0 := Rat.mul_nonneg n (show 0 ≤ p5 w.length by grind)
    have eT := hK w.length (by omega)
    have eL : (((i :: w).length : Nat) : Rat) * p5 (i :: w).length = 5 * ((w.length : Rat) * p5 w.length) + 5 * p5 w.length := by
      show ((w.length + 1 : Nat) : Rat) * (5 * p5 w.length) = _
      grind
    have eP : p5 (i :: w).length = 5 * p5 w.length := rfl
    rw [eL, eP]
    have eI : rootI B T (i :: w) s k = actI B T i (rootI B T w s) k := rfl
    have eD : actw (two' c) (i :: w) (e s) k = act (two' c) i (actw (two' c) w (e s)) k := rfl
    rw [eI, eD]
    unfold actI act bump
    by_cases hk : k = i
    · rw [if_pos hk, if_pos hk]
      subst hk
      have key : ∀ (b1 b2 D1 D2 : Int) (c1 c2 d1 d2 : Rat), (-2 ≤ (b1 : Rat) - T * c1 ∧ (b1 : Rat) - T * c1 ≤ 2) → (-2 ≤ (b2 : Rat) - T * c2 ∧ (b2 : Rat) - T * c2 ≤ 2) → (0 ≤ c1 ∧ c1 ≤ 2) → (0 ≤ c2 ∧ c2 ≤ 2) →
          ((-(2 * ((w.length : Rat) * p5 w.length)) ≤ (D1 : Rat) - T * d1 ∧ (D1 : Rat) - T * d1 ≤ 2 * ((w.length : Rat) * p5 w.length)) ∧ (-(p5 w.length) ≤ d1 ∧ d1 ≤ p5 w.length)) →
          ((-(2 * ((w.length : Rat) * p5 w.length)) ≤ (D2 : Rat) - T * d2 ∧ (D2 : Rat) - T * d2 ≤ 2 * ((w.length : Rat) * p5 w.length)) ∧ (-(p5 w.length) ≤ d2 ∧ d2 ≤ p5 w.length)) →
          othI B k (rootI B T w s) = b1 * D1 + b2 * D2 → dot (two' c) k (actw (two' c) w (e s)) = -2 * actw (two' c) w (e s) k + c1 * d1 + c2 * d2 →
          (-(2 * (5 * ((w.length : Rat) * p5 w.length) + 5 * p5 w.length)) ≤ ((othI B k (rootI B T w s) / T - rootI B T w s k : Int) : Rat) - (T : Rat) * (actw (two' c) w (e s) k + dot (two' c) k (actw (two' c) w (e s))) ∧
            ((othI B k (rootI B T w s) / T - rootI B T w s k : Int) : Rat) - (T : Rat) * (actw (two' c) w (e s) k + dot (two' c) k (actw (two' c) w (e s))) ≤ 2 * (5 * ((w.length : Rat) * p5 w.length) + 5 * p5 w.length)) ∧
          (-(5 * p5 w.length) ≤ actw (two' c) w (e s) k + dot (two' c) k (actw (two' c) w (e s)) ∧ actw (two' c) w (e s) k + dot (two' c) k (actw (two' c) w (e s)) ≤ 5 * p5 w.length) := by
        intro b1 b2 D1 D2 c1 c2 d1 d2 hb1 hb2 hc1 hc2 h1 h2 eo ed
        rw [eo, ed]
        have hk := ih k
        have f1 := Int.ediv_mul_le (b1 * D1 + b2 * D2) (show T ≠ 0 by omega)
        have f2 := Int.lt_ediv_add_one_mul_self (b1 * D1 + b2 * D2) hT
        have g1 : (((b1 * D1 + b2 * D2) / T * T : Int) : Rat) ≤ ((b1 * D1 + b2 * D2 : Int) : Rat) := Rat.intCast_le_intCast.mpr f1
        have g2 : ((b1 * D1 + b2 * D2 : Int) : Rat) ≤ ((((b1 * D1 + b2 * D2) / T + 1) * T : Int) : Rat) := Rat.intCast_le_intCast.mpr (by omega)
        rw [Rat.intCast_mul, Rat.intCast_add, Rat.intCast_mul, Rat.intCast_mul] at g1
        rw [Rat.intCast_mul, Rat.intCast_add, Rat.intCast_add, Rat.intCast_mul, Rat.intCast_mul] at g2
        have one : ((1 : Int) : Rat) = 1 := rfl
        rw [one] at g2
        have es := err_two (q := (((b1 * D1 + b2 * D2) / T : Int) : Rat)) hTr g1 (by grind) hb1 hb2 hc1 hc2 h1.2 h2.2 h1.1 h2.1 eT (by grind)
        rw [Rat.intCast_sub]
        have x1 := mul_bd (a := c1) (b := d1) (B := 2) (D := p5 w.length) (by grind) hc1.2 h1.2.1 h1.2.2
        have x2 := mul_bd (a := -c1) (b := d1) (B := 2) (D := p5 w.length) (by grind) (by grind) h1.2.1 h1.2.2
        have y1 := mul_bd (a := c2) (b := d2) (B := 2) (D := p5 w.length) (by grind) hc2.2 h2.2.1 h2.2.2
        have y2 := mul_bd (a := -c2) (b := d2) (B := 2) (D := p5 w.length) (by grind) (by grind) h2.2.1 h2.2.2
        constructor
        · constructor <;> grind
        · constructor <;> grind
      have h3 : k = 0 ∨ k = 1 ∨ k = 2 := by
        rcases k with ⟨k, hk⟩
        have : k = 0 ∨ k = 1 ∨ k = 2 := by omega
        rcases this with rfl | rfl | rfl
        · exact .inl rfl
        · exact .inr (.inl rfl)
        · exact .inr (.inr rfl)
      rcases h3 with rfl | rfl | rfl
      · exact key _ _ _ _ _ _ _ _ (hn.b 0 1 (by decide)) (hn.b 0 2 (by decide)) (hn.c 0 1 (by decide)) (hn.c 0 2 (by decide)) (ih 1) (ih 2) rfl (by unfold dot two'; simp)
      · exact key _ _ _ _ _ _ _ _ (hn.b 1 0 (by decide)) (hn.b 1 2 (by decide)) (hn.c 1 0 (by decide)) (hn.c 1 2 (by decide)) (ih 0) (ih 2) rfl (by unfold dot two'; simp; grind)
      · exact key _ _ _ _ _ _ _ _ (hn.b 2 0 (by decide)) (hn.b 2 1 (by decide)) (hn.c 2 0 (by decide)) (hn.c 2 1 (by decide)) (ih 0) (ih 1) rfl (by unfold dot two'; simp; grind)
    · rw [if_neg hk, if_neg hk]
      have h := ih k
      constructor
      · constructor <;> grind
      · constructor <;> grind
def sumI (D : Fin 3 → Int) : Int := D 0 + D 1 + D 2
/-- the sign of a root's sum tells whether the letter lengthens the word -/
theorem rsigns {m : Fin 3 → Fin 3 → Nat} {B : Fin 3 → Fin 3 → Int} {T : Int} {K L : Nat} (F : Fits m B T K) (hL : ∀ k, k ≤ L → 9 * ((k : Rat) * p5 k) ≤ (T : Rat)) {w : W} (hw : w.length ≤ L) (s : Fin 3) : (ln m (w ++ [s]) = ln m w + 1 → 0 < sumI (rootI B T w s)) ∧ (ln m w = ln m (w ++ [s]) + 1 → sumI (rootI B T w s) < 0) := by
  obtain ⟨c, cR, O, hc, hn⟩ := F.seq
  have hTr : (0 : Rat) < (T : Rat) := by
    have : ((0 : Int) : Rat) < (T : Rat) := Rat.intCast_lt_intCast.mpr F.pos
    exact this
  have k0 := p5_ge w.length
  have n0 : (0 : Rat) ≤ (w.length : Rat) := by grind
  have x0 := Rat.mul_nonneg n0 (show 0 ≤ p5 w.length by grind)
  have rm := hL w.length hw
  have hK : ∀ k, k ≤ L → 2 * ((k : Rat) * p5 k) ≤ (T : Rat) := fun k hk => by
    have h1 := hL k hk
    have h2 := p5_ge k
    have h3 : (0 : Rat) ≤ (k : Rat) := by grind
    have h4 := Rat.mul_nonneg h3 (show 0 ≤ p5 k by grind)
    grind
  have root := depS_of c cR hc w.reverse s
  have flip : ln m (s :: w.reverse) = ln m (w ++ [s]) := by
    rw [← ln_reverse, List.reverse_cons, List.reverse_reverse]
  have flip0 : ln m w.reverse = ln m w := ln_reverse w
  have sums : ((sumI (rootI B T w s) : Int) : Rat) = (rootI B T w s 0 : Rat) + (rootI B T w s 1 : Rat) + (rootI B T w s 2 : Rat) := by
    unfold sumI
    rw [Rat.intCast_add, Rat.intCast_add]
  have deps : ∀ N, depG (fun i j => (c i j).f N) w.reverse s = actw (two' fun i j => (c i j).f N) w (e s) 0 + actw (two' fun i j => (c i j).f N) w (e s) 1 + actw (two' fun i j => (c i j).f N) w (e s) 2 := fun N => by
    rw [← depG_two, depG_root2 (fun i => by unfold two'; rw [if_pos rfl]), List.reverse_reverse]
    rfl
  constructor
  · intro h
    have g := dep_far O (w := w.reverse) (j := s) (by rw [flip, flip0]; exact h)
    rw [root] at g
    obtain ⟨N, hN⟩ := ge_member g
    have q := hN _ rfl
    rw [depS_f, deps N] at q
    have er := errR F.pos (hn N) L hK s w hw
    have e0 := (er 0).1
    have e1 := (er 1).1
    have e2 := (er 2).1
    have sm := sums
    have tq := Rat.mul_nonneg (show 0 ≤ (T : Rat) by grind) (show 0 ≤ 4 * (actw (two' fun i j => (c i j).f N) w (e s) 0 + actw (two' fun i j => (c i j).f N) w (e s) 1 + actw (two' fun i j => (c i j).f N) w (e s) 2) - 3 by grind)
    have r : ((0 : Int) : Rat) < (sumI (rootI B T w s) : Rat) := by
      show (0 : Rat) < _
      rw [sm]
      grind
    exact Rat.intCast_lt_intCast.mp r
  · intro h
    have g := dep_near O (w := w.reverse) (j := s) (by rw [flip, flip0]; exact h)
    rw [root] at g
    have g2 : 1 ≤ Re.of (depS c w.reverse s).neg := by
      have e : Re.of (depS c w.reverse s).neg = -Re.of (depS c w.reverse s) := rfl
      rw [e]
      grind
    obtain ⟨N, hN⟩ := ge_member g2
    have q := hN _ rfl
    have en : (depS c w.reverse s).neg.f N = -(depS c w.reverse s).f N := rfl
    rw [en, depS_f, deps N] at q
    have er := errR F.pos (hn N) L hK s w hw
    have e0 := (er 0).1
    have e1 := (er 1).1
    have e2 := (er 2).1
    have sm := sums
    have tq := Rat.mul_nonneg (show 0 ≤ (T : Rat) by grind) (show 0 ≤ -4 * (actw (two' fun i j => (c i j).f N) w (e s) 0 + actw (two' fun i j => (c i j).f N) w (e s) 1 + actw (two' fun i j => (c i j).f N) w (e s) 2) - 3 by grind)
    have r : (sumI (rootI B T w s) : Rat) < ((0 : Int) : Rat) := by
      show _ < (0 : Rat)
      rw [sm]
      grind
    exact Rat.intCast_lt_intCast.mp r
theorem kp5_mono (k : Nat) : (k : Rat) * p5 k ≤ ((k + 1 : Nat) : Rat) * p5 (k + 1) := by
  have a := p5_ge k
  have n : (0 : Rat) ≤ (k : Rat) := by grind
  have x := Rat.mul_nonneg n (show 0 ≤ p5 k by grind)
  show _ ≤ ((k + 1 : Nat) : Rat) * (5 * p5 k)
  have e : ((k + 1 : Nat) : Rat) * (5 * p5 k) = 5 * ((k : Rat) * p5 k) + 5 * p5 k := by grind
  rw [e]
  grind
theorem kp5_le (k : Nat) : ∀ d, (k : Rat) * p5 k ≤ ((k + d : Nat) : Rat) * p5 (k + d)
  | 0 => Rat.le_refl
  | d + 1 => Rat.le_trans (kp5_le k d) (kp5_mono (k + d))
theorem room5 : ∀ k : Nat, k ≤ 64 → 9 * ((k : Rat) * p5 k) ≤ (((2 : Int) ^ 288 : Int) : Rat) := fun k hk => by
  have h := kp5_le k (64 - k)
  rw [show k + (64 - k) = 64 by omega] at h
  have h2 : 9 * (((64 : Nat) : Rat) * p5 64) ≤ (((2 : Int) ^ 288 : Int) : Rat) := by decide +kernel
  grind
section
variable {m : Fin 3 → Fin 3 → Nat}
/-- the last place whose rest the letter does not lengthen is the one that is left out -/
theorem left_place {w : W} {s : Fin 3} (r : Red m w) {k : Nat} (hk : k < w.length) (h1 : ln m (w.drop k) = ln m (w.drop k ++ [s]) + 1) (h2 : ln m (w.drop (k + 1) ++ [s]) = ln m (w.drop (k + 1)) + 1) : Eqv m (w ++ [s]) (w.take k ++ w.drop (k + 1)) := by
  have e := List.drop_eq_getElem_cons hk
  have t := List.take_append_drop k w
  have r2 : Red m (w.drop (k + 1)) := by
    have r3 := r
    rw [← List.take_append_drop (k + 1) w] at r3
    exact r3.part.2
  rw [e] at h1
  have f := left_first r2 h2 h1
  have g := f.left (w.take k)
  have e3 : w.take k ++ (w[k] :: w.drop (k + 1)) = w := by rw [← e]; exact t
  have e2 : w.take k ++ w[k] :: (w.drop (k + 1) ++ [s]) = w ++ [s] := by
    have x : w.take k ++ w[k] :: (w.drop (k + 1) ++ [s]) = (w.take k ++ (w[k] :: w.drop (k + 1))) ++ [s] := by rw [List.append_assoc, List.cons_append]
    rw [x, e3]
  rw [e2] at g
  exact g
/-- only one place leads there -/
theorem left_unique {w : W} (r : Red m w) {i j : Nat} (hij : i < j) (hj : j < w.length) : ¬ Eqv m (w.take i ++ w.drop (i + 1)) (w.take j ++ w.drop (j + 1)) := by
  intro h
  obtain ⟨a, p, b, q, c, rfl, la, lb⟩ : ∃ (a : W) (p : Fin 3) (b : W) (q : Fin 3) (c : W), w = a ++ p :: (b ++ q :: c) ∧ a.length = i ∧ a.length + 1 + b.length = j := by
    refine ⟨w.take i, w[i]'(by omega), (w.drop (i + 1)).take (j - (i + 1)), w[j], w.drop (j + 1), ?_, by rw [List.length_take]; omega, by rw [List.length_take, List.length_take, List.length_drop]; omega⟩
    have e1 := List.drop_eq_getElem_cons (show i < w.length by omega)
    have e2 := List.drop_eq_getElem_cons hj
    have t1 := List.take_append_drop (j - (i + 1)) (w.drop (i + 1))
    rw [List.drop_drop, show i + 1 + (j - (i + 1)) = j by omega, e2] at t1
    rw [t1, ← e1, List.take_append_drop]
  have d1 : (a ++ p :: (b ++ q :: c)).take i = a := by rw [← la]; simp
  have d2 : (a ++ p :: (b ++ q :: c)).drop (i + 1) = b ++ q :: c := by
    rw [← la, show a ++ p :: (b ++ q :: c) = (a ++ [p]) ++ (b ++ q :: c) by simp, show a.length + 1 = (a ++ [p]).length by simp]
    exact List.drop_left
  have d3 : (a ++ p :: (b ++ q :: c)).take j = a ++ p :: b := by
    rw [← lb, show a ++ p :: (b ++ q :: c) = (a ++ p :: b) ++ (q :: c) by simp, show a.length + 1 + b.length = (a ++ p :: b).length by simp; omega]
    exact List.take_left
  have d4 : (a ++ p :: (b ++ q :: c)).drop (j + 1) = c := by
    rw [← lb, show a ++ p :: (b ++ q :: c) = (a ++ p :: b ++ [q]) ++ c by simp, show a.length + 1 + b.length + 1 = (a ++ p :: b ++ [q]).length by simp; omega]
    exact List.drop_left
  rw [d1, d2, d3, d4] at h
  have h1 : Eqv m (b ++ q :: c) (p :: b ++ c) := by
    have x := h.left a.reverse
    have y1 : Eqv m (a.reverse ++ (a ++ (b ++ q :: c))) (b ++ q :: c) := by
      have := (Eqv.inv_left (m := m) a).right (b ++ q :: c)
      simpa using this
    have y2 : Eqv m (a.reverse ++ (a ++ p :: b ++ c)) (p :: b ++ c) := by
      have := (Eqv.inv_left (m := m) a).right (p :: b ++ c)
      simpa using this
    exact y1.symm.trans (x.trans y2)
  have h2 : Eqv m (a ++ p :: (b ++ q :: c)) (a ++ (b ++ c)) := by
    have x := h1.left (a ++ [p])
    have y : Eqv m (a ++ [p] ++ (p :: b ++ c)) (a ++ (b ++ c)) := by
      have := (Eqv.cancel (m := m) p).app a (b ++ c)
      simpa using this
    have e : a ++ [p] ++ (b ++ q :: c) = a ++ p :: (b ++ q :: c) := by simp
    rw [e] at x
    exact x.trans y
  have l1 := ln_eqv h2
  have l2 := ln_self (m := m) (a ++ (b ++ c))
  have r : ln m (a ++ p :: (b ++ q :: c)) = (a ++ p :: (b ++ q :: c)).length := r
  simp only [List.length_append, List.length_cons] at r l2
  omega
end
end Cox

/-! What remains of a normal word is normal. -/
namespace Cox
theorem lx_pre : ∀ {a d x y : W}, a.length = d.length → lx (a ++ x) (d ++ y) → lx a d
  | [], [], _, _, _, _ => trivial
  | [], _ :: _, _, _, h, _ => by cases h
  | _ :: _, [], _, _, h, _ => by cases h
  | i :: a, j :: d, x, y, h, k => by
    have h : a.length = d.length := by simpa using h
    have k : i < j ∨ (i = j ∧ lx (a ++ x) (d ++ y)) := k
    rcases k with k | ⟨k, k2⟩
    · exact .inl k
    · exact .inr ⟨k, lx_pre h k2⟩
theorem lx_cut : ∀ {a x y : W}, lx (a ++ x) (a ++ y) → lx x y
  | [], _, _, h => h
  | i :: a, x, y, h => by
    have h : i < i ∨ (i = i ∧ lx (a ++ x) (a ++ y)) := h
    rcases h with h | ⟨_, h⟩
    · exact absurd h (Fin.lt_irrefl i)
    · exact lx_cut h
theorem lx_put : ∀ {a x y : W}, lx x y → lx (a ++ x) (a ++ y)
  | [], _, _, h => h
  | i :: a, x, y, h => .inr ⟨rfl, lx_put h⟩
/-- if a letter of a least word is left out as an end's, what remains is the least -/
theorem left_least {m : Fin 3 → Fin 3 → Nat} {a c d : W} {p s : Fin 3} (hw : ∀ v, Red m v → Eqv m (a ++ p :: c) v → lx (a ++ p :: c) v) (rw' : Red m (a ++ p :: c)) (e : Eqv m (a ++ p :: c ++ [s]) (a ++ c))
    (hd : Eqv m (a ++ c) d) (ld : d.length = (a ++ c).length) (h : lx d (a ++ c)) : d = a ++ c := by
  have la : a.length ≤ d.length := by rw [ld, List.length_append]; omega
  obtain ⟨d1, d2, rfl, l1⟩ : ∃ d1 d2 : W, d = d1 ++ d2 ∧ d1.length = a.length := ⟨d.take a.length, d.drop a.length, (List.take_append_drop _ _).symm, by rw [List.length_take]; omega⟩
  have ew : Eqv m (a ++ p :: c) (d1 ++ d2 ++ [s]) := by
    have x := e.right [s]
    have y : Eqv m (a ++ p :: c ++ [s] ++ [s]) (a ++ p :: c) := by
      have := (Eqv.cancel (m := m) s).left (a ++ p :: c)
      simpa using this
    exact y.symm.trans (x.trans (hd.right [s]))
  have lw : (d1 ++ d2 ++ [s]).length = (a ++ p :: c).length := by
    rw [List.length_append, ld]
    simp
    omega
  have red_of : ∀ v : W, Eqv m (a ++ p :: c) v → v.length = (a ++ p :: c).length → Red m v := fun v ev lv => by
    show ln m v = v.length
    rw [← ln_eqv ev, lv]
    exact rw'
  have k1 := hw _ (red_of _ ew lw) ew
  rw [List.append_assoc] at k1
  have e1 := lx_pre l1.symm k1
  have e2 := lx_pre l1 h
  have e3 : d1 = a := lx_antisymm l1 e2 e1
  subst e3
  have ec : Eqv m c d2 := by
    have x := hd.left d1.reverse
    have y1 : Eqv m (d1.reverse ++ (d1 ++ c)) c := by
      have := (Eqv.inv_left (m := m) d1).right c
      simpa using this
    have y2 : Eqv m (d1.reverse ++ (d1 ++ d2)) d2 := by
      have := (Eqv.inv_left (m := m) d1).right d2
      simpa using this
    exact y1.symm.trans (x.trans y2)
  have lc : d2.length = c.length := by
    rw [List.length_append, List.length_append] at ld
    omega
  have ep : Eqv m (d1 ++ p :: c) (d1 ++ p :: d2) := by
    have := ec.left (d1 ++ [p])
    simpa using this
  have k2 := hw _ (red_of _ ep (by simp [lc])) ep
  have k3 : lx (p :: c) (p :: d2) := lx_cut k2
  have k4 : lx c d2 := lx_cut (a := [p]) k3
  have k5 : lx d2 c := lx_cut h
  rw [lx_antisymm lc k5 k4]
end Cox

/-! The walls that a way crosses an odd number of times. -/
namespace Cox
variable {m : Fin 3 → Fin 3 → Nat} {nf : W → W}
theorem count_map_on {α β : Type} [BEq α] [LawfulBEq α] [BEq β] [LawfulBEq β] (f : α → β) : ∀ (l : List α) (x : α), (∀ y ∈ l, f y = f x → y = x) → (l.map f).count (f x) = l.count x
  | [], _, _ => rfl
  | y :: l, x, h => by
    rw [List.map_cons, List.count_cons, List.count_cons, count_map_on f l x fun z hz => h z (List.mem_cons_of_mem _ hz)]
    by_cases e : y = x
    · rw [e, beq_self_eq_true, beq_self_eq_true]
    · rw [beq_eq_false_iff_ne.mpr e, beq_eq_false_iff_ne.mpr fun z => e (h y List.mem_cons_self z)]
theorem odd_walls (hN : NF m nf) {t p q : W} (ht : t.length ≤ 60) (hp : p.length ≤ 60) (hq : q.length ≤ 60) (r : Red m q) (e : Eqv m p q) (y : W) : y ∈ wlsC nf t q ↔ (wlsC nf t p).count y % 2 = 1 := by
  have inj : ∀ x x', nf x = x → nf x' = x' → x.length ≤ 130 → x'.length ≤ 130 → nf (t ++ x ++ t.reverse) = nf (t ++ x' ++ t.reverse) → x = x' := fun x x' h1 h2 l1 l2 h => by
    have e1 := hN.e (t ++ x ++ t.reverse) (by simp only [List.length_append, List.length_reverse]; omega)
    have e2 := hN.e (t ++ x' ++ t.reverse) (by simp only [List.length_append, List.length_reverse]; omega)
    rw [h] at e1
    have := hN.c x x' (by omega) (by omega) (conj_inj (e1.trans e2.symm))
    rw [h1, h2] at this
    exact this
  have cnt : ∀ x, nf x = x → x.length ≤ 130 → (wlsC nf t p).count (nf (t ++ x ++ t.reverse)) = (mirs nf p).count x := fun x h1 l1 => by
    rw [wlsC_map hN ht hp]
    exact count_map_on (fun x => nf (t ++ x ++ t.reverse)) (mirs nf p) x fun z hz h => by
      obtain ⟨a1, a2⟩ := mirs_nf hN p hp z hz
      exact inj z x a1 h1 a2 l1 h
  constructor
  · intro hy
    rw [wlsC_map hN ht hq] at hy
    obtain ⟨x, hx, rfl⟩ := List.mem_map.mp hy
    obtain ⟨a1, a2⟩ := mirs_nf hN q hq x hx
    rw [cnt x a1 a2]
    have o1 := ((mem_mirs hN hq r).mp hx).2.2
    rw [← od_eqv e, od_count hN p hp x a1 (by omega)] at o1
    exact of_decide_eq_true o1
  · intro hc
    have hm : y ∈ wlsC nf t p := by
      apply List.count_pos_iff.mp
      omega
    rw [wlsC_map hN ht hp] at hm
    obtain ⟨x, hx, rfl⟩ := List.mem_map.mp hm
    obtain ⟨a1, a2⟩ := mirs_nf hN p hp x hx
    rw [cnt x a1 a2] at hc
    have o1 := od_count hN p hp x a1 (by omega)
    rw [decide_eq_true hc, od_eqv e] at o1
    rw [wlsC_map hN ht hq]
    exact List.mem_map.mpr ⟨x, (mem_mirs hN hq r).mpr ⟨a1, by omega, o1⟩, rfl⟩
/-- the walls of a way depend on the tile alone -/
theorem wlsC_cong (hN : NF m nf) {t t' w : W} (ht : t.length ≤ 60) (ht' : t'.length ≤ 60) (hw : w.length ≤ 60) (e : Eqv m t t') : wlsC nf t w = wlsC nf t' w := by
  unfold wlsC
  refine List.map_congr_left fun k hk => ?_
  refine hN.c _ _ ?_ ?_ ?_
  · simp only [List.length_append, List.length_reverse, List.length_take, List.length_drop]; omega
  · simp only [List.length_append, List.length_reverse, List.length_take, List.length_drop]; omega
  · exact ((e.right _).right _).mul (e.right _).rev
end Cox

/-! Own kit: a def bundled with where it stands, calls of such defs, repr of data, the law's entry with nothing being shown. -/
namespace FK
open PySem PySem.Spec PyProof.Rows L2
section
variable {P : Program} {w : World} {K : PySem.W.Frag} {mg : Str → Option Value} {base : Heap}
/-- the def of the statement st stands under its name -/
def At (K : PySem.W.Frag) (mg : Str → Option Value) (x : Str) (st : Stmt) (ps : List Str) : Prop :=
  ∃ (f : Addr) (fd : FuncData), Fun K x x st f fd ∧ mg x = some (.ref f) ∧ Binds K fd ps []
/-- the def of this name keeps the promise -/
def Has (P : Program) (w : World) (K : PySem.W.Frag) (mg : Str → Option Value) (base : Heap) (CX : CXT) (k : Nat) (x : Str) (ps : List Str) (sp : Sp) : Prop :=
  ∃ (f : Addr) (fd : FuncData), FnOk P w K mg base CX k f fd ps sp ∧ mg x = some (.ref f) ∧ PySem.W.keepIn K (.ref f) = true ∧ Binds K fd ps []
theorem Has.mono {CX : CXT} {j k : Nat} {x : Str} {ps : List Str} {sp : Sp} (h : Has P w K mg base CX j x ps sp) (hk : j ≤ k) : Has P w K mg base CX k x ps sp := by
  obtain ⟨f, fd, h1, h2⟩ := h
  exact ⟨f, fd, h1.mono hk, h2⟩
theorem At.ok {x : Str} {st : Stmt} {N ps : List Str} {k : Nat} {sp : Sp} (D : At K mg x st ps) (S : FnScope N ps (defScope st)) (len : ∀ vs H Q E, sp vs H Q E → vs.length = ps.length)
    (hbody : ∀ (f : Addr) (cdv : Value) (A : Around) (outer : List Env) (s : Shared) (H : Hp) (vs : List V) (Q : VK) (E : XK), Room k (A.deeper (envOfC x (defScope st) s.heap.objs.size f cdv)) → sp vs H Q E →
      ∃ t, PSs (cxOf CX0 P w K mg base N x (defScope st) f cdv A outer s H E).nox (defBody st) t ∧ t { nx := fun _ H' => Q .non H', rt := Q } (start N vs) H) : Has P w K mg base CX0 (k + 1) x ps sp := by
  obtain ⟨f, fd, F, g, b⟩ := D
  exact ⟨f, fd, F.ok S len (hbody f), g, F.kp, b⟩
theorem At.okX {x : Str} {st : Stmt} {N ps : List Str} {k : Nat} {sp : Sp} (D : At K mg x st ps) (S : FnScope N ps (defScope st)) (len : ∀ vs H Q E, sp vs H Q E → vs.length = ps.length)
    (hbody : ∀ (f : Addr) (cdv : Value) (A : Around) (outer : List Env) (s : Shared) (H : Hp) (vs : List V) (Q : VK) (E : XK), Room k (A.deeper (envOfC x (defScope st) s.heap.objs.size f cdv)) → sp vs H Q E →
      ∃ t, PSs (cxOf (L2.CX P w) P w K mg base N x (defScope st) f cdv A outer s H E) (defBody st) t ∧ t { nx := fun _ H' => Q .non H', rt := Q } (start N vs) H) : Has P w K mg base (L2.CX P w) (k + 1) x ps sp := by
  obtain ⟨f, fd, F, g, b⟩ := D
  exact ⟨f, fd, F.okX S len (hbody f), g, F.kp, b⟩
end
/-- what the top says of an own error class (no __init__ of its own) that stands at C -/
structure XC (K : PySem.W.Frag) (mg : Str → Option Value) (x : Str) (C : Addr) : Prop where
  g : mg x = some (.ref C)
  k : PySem.W.keepIn K (.ref C) = true
  x : PySem.W.excIn K C [.type "ValueError", .type "Exception", .type "BaseException", .type "object"] "ValueError.__new__" = true
  b : PySem.W.subIn K (.ref C) (.type "BaseException") = some true
  t : PySem.W.typeIn K (.ref C) = some (.type "type")
  c : PySem.W.isClsIn K C = true
  e : ExcC K C
section
variable {X : Cx} {k : Nat} {x : Str} {ps : List Str} {sp : Sp} {p pos : Pos} {e : Expr} {es : List Expr} {t : TA}
/-- f(e, ..), what f lets out goes to E -/
theorem pe_h {CX : CXT} {E : XK} (h : Has X.prog X.w X.K X.mg X.base CX k x ps sp) (hr : Room k X.A) (hx : Passes CX X E) (ha : PA X (e :: es) t) (hg : Gl X x := by rfl) (hdb : (x == ("__debug__" : Str)) = false := by decide)
    (he : starEach (e :: es) X.env = (false, eval e X.env) :: starEach es X.env := by rfl) (hpl : (backTo pos (starEach es X.env)).any (·.1) = false := by rfl) :
    PE X (.Call (.Name x p) (e :: es) [] pos) (tCall sp [] E t) := by
  obtain ⟨f, fd, F, g, kp, b⟩ := h
  exact pe_call F hr hg g kp b .nil hx ha hdb he hpl
theorem pe_h0 {CX : CXT} {E : XK} (h : Has X.prog X.w X.K X.mg X.base CX k x ps sp) (hr : Room k X.A) (hx : Passes CX X E) (hg : Gl X x := by rfl) (hdb : (x == ("__debug__" : Str)) = false := by decide) :
    PE X (.Call (.Name x p) [] [] pos) (tCall sp [] E tNil) := by
  obtain ⟨f, fd, F, g, kp, b⟩ := h
  exact pe_call0 F hr hg g kp b .nil hx hdb
/-- the same in a try's body: what f lets out is wished for at the slots -/
theorem pe_hS {CX : CXT} {E : L2.St → XK} (h : Has X.prog X.w X.K X.mg X.base CX k x ps sp) (hr : Room k X.A) (hx : ∀ σ, PassesAt CX X σ (E σ)) (ha : PA X (e :: es) t) (hg : Gl X x := by rfl) (hdb : (x == ("__debug__" : Str)) = false := by decide)
    (he : starEach (e :: es) X.env = (false, eval e X.env) :: starEach es X.env := by rfl) (hpl : (backTo pos (starEach es X.env)).any (·.1) = false := by rfl) :
    PE X (.Call (.Name x p) (e :: es) [] pos) (tCallS sp E t) := by
  obtain ⟨f, fd, F, g, kp, b⟩ := h
  exact pe_callS F hr hg g kp b hx ha hdb he hpl
/-- repr(x), x data of any depth, where nothing is being shown -/
def rRepr (K : PySem.W.Frag) : List V → Hp → VK → Prop := fun xs H Q => ∃ (x : V) (d : PyData), xs = [x] ∧ Dp K H x d ∧ d.showable = true ∧ d.hasDict = false ∧ d.depth < 40 ∧ d.shown.length ≤ sizeLine ∧ Q (.str d.shown) H
theorem call_repr (hg : X.A.guards = some []) (hr : Room k X.A) : CallR X (.builtin "repr") (rRepr X.K) := by
  intro pins s σ H xs us Q I r h
  obtain ⟨x, d, rfl, hd, hs, hn, hdp, hz, q⟩ := h
  obtain ⟨u, rfl, rx⟩ := vals1 r
  obtain ⟨as, rd⟩ := Dp.reads I d _ u hd rx
  have hu := hr.units
  cases hd with
  | non =>
    cases rx
    exact PySem.P.repr_of_none ⟨.str _, H, I.tok _, ⟨_, rfl⟩, q⟩
  | bl b =>
    cases rx
    exact PySem.P.repr_of_bool ⟨.str _, H, I.tok _, ⟨_, rfl⟩, q⟩
  | int i =>
    obtain ⟨t, rfl⟩ := rx
    exact PySem.P.repr_of_int (of_decide_eq_true hs) ⟨.str _, H, I.tok _, ⟨_, rfl⟩, q⟩
  | str x =>
    obtain ⟨t, rfl⟩ := rx
    exact PySem.P.repr_of_str ⟨.str _, H, I.tok _, ⟨_, rfl⟩, q⟩ hz
  | lst h1 h2 =>
    cases rx
    exact repr_of_reads' (s := s) rd hs (PyData.noDict_hsm hn) hg (by omega) (fun _ _ e => e) (fun h' u tk hk => ⟨.str _, H, I.kept (t' := tk) hk, ⟨u, rfl⟩, q⟩) hz
  | tup h1 h2 =>
    cases rx
    exact repr_of_reads' (s := s) rd hs (PyData.noDict_hsm hn) hg (by omega) (fun _ _ e => e) (fun h' u tk hk => ⟨.str _, H, I.kept (t' := tk) hk, ⟨u, rfl⟩, q⟩) hz
/-- int(n) of a whole number -/
theorem call_intI : CallR X (.type "int") (fun xs H Q => ∃ i, xs = [.int i] ∧ Q (.int i) H) := fun pins s σ H xs us Q I r h => call_int1 pins s σ H xs us Q I r (.inl h)
/-- xs[i] read for xs[i] -= e, i not negative -/
theorem pget_list : PGet X (fun x y H Q => ∃ p xs i v, x = .ref p ∧ y = .int i ∧ 0 ≤ i ∧ SqL X.K H p xs ∧ atI xs i = some v ∧ Q v H) := by
  intro pins s σ H o i ov iv Q I ro ri h
  obtain ⟨p, xs, k, z, rfl, rfl, h0, hq, he, q⟩ := h
  cases ro
  obtain ⟨t, rfl⟩ := ri
  obtain ⟨its, r, pl, hz⟩ := I.list hq
  obtain ⟨j, h1, h2, h3, h4, h5⟩ := atI_get he
  obtain ⟨w, ew, rw'⟩ := r.get h2
  have hl := r.length
  have hn := line63
  have hj : k.toNat = j := by
    rw [seqIndex_of h0 h5] at h1
    exact Option.some.inj h1
  exact wpAny_getItem_list pl.isList h0 (by omega) (by rw [hj]; simpa using ew) ⟨z, H, I, rw', q⟩
/-- isinstance(e, c) in the suite that holds e, whatever class e has -/
theorem call_isEx {a : Addr} {oe : Obj} {cls : Value} {dd : Option Addr} {pn : List (Addr × Obj)} (hz : Zc cls dd oe) (hf : ∃ vs, oe.data = .fields vs) :
    CallR (X.suite a ((a, oe) :: pn)) (.builtin "isinstance") (fun xs H Q => ∃ D : Addr, cls = .ref D ∧ dd = none ∧ ExcC X.K D ∧ rIsE X.K D a xs H Q) := by
  intro pins s σ H xs us Q I r h
  obtain ⟨D, rfl, rfl, C, q⟩ := h
  exact call_isE C hz hf pins s σ H xs us Q I r q
end
end FK

/-! Own entry of a law: its def run where the caller stands, with nothing being shown. -/
namespace FK
open PySem PySem.Spec PyProof.Rows L2
section
variable {P : Program} {w : World} {K : PySem.W.Frag} {mg : Str → Option Value} {base : Heap}
/-- the law's def, called by the caller: what its body says of every answer -/
theorem run_def {x q : Str} {pr : Arguments} {body : List Stmt} {sc : Scope} {N ps : List Str} {k : Nat} {f : Addr} {A : Around} {s : Shared} {H : Hp} {us : List Value} {vs : List V} {args : Args} {Q : VK} {kV doc pm cdv ct oc : Value} {an od : Option Addr} {osl : Array (Option Value)}
    (lk : K.lookup f = some ⟨oc, od, .func (PySem.W.fnOf x q pr body sc .none kV doc pm an cdv ct), osl⟩) (hc : PySem.W.codeIn K cdv q = true)
    (S : FnScope N ps sc) (hr : Room (k + 1) A) (e0 : Env0 P w K mg base A [] s H) (hv : Vals vs us) (hl : vs.length = ps.length) (hb : BindsTo s (PySem.W.fnOf x q pr body sc .none kV doc pm an cdv ct) args (ps.zip us))
    {t : TS} (hp : PSs (cxOf CX0 P w K mg base N q sc f cdv A [] s H E0).nox body t) (ht : t { nx := fun _ H' => Q .non H', rt := Q } (start N vs) H) :
    codeAny (model P w) A (.call (.ref f) args) (CR CX0 [] P w H s Q E0) s := by
  have up : ∀ {b : Addr} {o : Obj}, base.get? b = some o → s.heap.get? b = some o := fun {b o} e => (e0.bs b o e).1
  have inK : K.In s.heap := e0.mod.kin.keeps fun _ _ e => up e
  refine codeAny_call_function hr.depth (inK _ _ lk) rfl S.co S.gen rfl (PySem.W.codeRec_of inK hc) (hb _ _ _ _ ?_)
  refine wpAny_newFunctionEnv_cells S.kind (fun z hz => ?_) fun env he s1 C => ?_
  · rcases S.par z.1 (List.of_mem_zip (show (z.1, z.2) ∈ ps.zip us from hz)).1 with c | c
    · exact Or.inl c
    · exact Or.inr ⟨c, PySem.W.cellsFrom_some _ _ _ (Or.inl c)⟩
  · cases he
    have nl : s.heap.NoLimit := e0.mod.nolimit.keeps fun _ _ e => up e
    refine ⟨nl.keeps C.toInCall.keep, codeAny_func ?_⟩
    have I := inv_start (CX := CX0) (qual := q) (f := f) (cd := cdv) (E := E0) S hr.hd e0 hl hv C
    refine wpAny_mono (hp.nox.run [] s1 (start N vs) H _ I ht) (fun fl s2 z => ?_) fun _ _ z => z
    cases fl with
    | ret u => obtain ⟨v, _, H2, J, rv, q⟩ := z; exact ⟨v, H2, J.os, J.bare, J.base, J.hok, rv, q⟩
    | next => obtain ⟨_, H2, J, q⟩ := z; exact ⟨.non, H2, J.os, J.bare, J.base, J.hok, rfl, q⟩
    | brk => exact False.elim (let ⟨_, _, _, q⟩ := z; q)
    | cont => exact False.elim (let ⟨_, _, _, q⟩ := z; q)
/-- from the caller's state to an abstract heap in which nothing but the script may stand -/
theorem law_in {mb : Str → Option Value} {fa a : Addr} {s : Shared} {vs : List Value} {ns : List Int} (inK : K.In s.heap) (gl : s.heap.Ns mainGlobals mg) (bl : s.heap.Ns builtinsNs mb) (bb : ∀ z : Str, z ≠ "__name__" → mb z = bootBuiltins z) (nl : s.heap.NoLimit) (gs : s.gens = #[])
    (la : s.heap.get? a = some { cls := .type "list", data := .seq vs.toArray }) (ia : IntsAre vs ns) (le : ns.length ≤ sizeLine)
    (go : ∀ (base : Heap) (H : Hp), Env0 P w K mg base callerA [] s H → SqL K H a (ns.map V.int) → codeAny (model P w) callerA (.call (.ref fa) ⟨[.ref a], []⟩) (CR CX0 [] P w H s (fun v _ => v = .bl true) E0) s) :
    codeAny (model P w) callerA (.call (.ref fa) ⟨[.ref a], []⟩) (fun r s' => r = .ok (.ret (.bool true)) ∧ OldK s.heap s'.heap ∧ s'.os = s.os ∧ AllBare s'.gens) s := by
  have rv : Vals (ns.map V.int) vs := vals_ints ia
  have lv := ia.length
  have lm : (ns.map V.int).length ≤ sizeLine := by rw [List.length_map]; exact le
  -- the abstract heap: the script, locked, if it is no object of the text itself
  obtain ⟨H, hH⟩ : ∃ H : Hp, ∀ b, H b = if b = a ∧ K.lookup a = none then some (HO.frz { cls := .type "list", data := .seq vs.toArray } (.lst (ns.map V.int))) else none := ⟨_, fun _ => rfl⟩
  have Hno : ∀ {b : Addr}, ¬(b = a ∧ K.lookup a = none) → H b = none := fun {b} c => by rw [hH, if_neg c]
  have Hyes : ∀ {b : Addr} {u : HO}, H b = some u → (b = a ∧ K.lookup a = none) ∧ u = .frz { cls := .type "list", data := .seq vs.toArray } (.lst (ns.map V.int)) := fun {b u} e => by
    rw [hH] at e
    by_cases c : b = a ∧ K.lookup a = none
    · rw [if_pos c] at e; cases e; exact ⟨c, rfl⟩
    · rw [if_neg c] at e; cases e
  have sq : SqL K H a (ns.map V.int) := by
    cases c : K.lookup a with
    | none => exact .inl (.inr ⟨_, by rw [hH, if_pos ⟨rfl, c⟩]⟩)
    | some o =>
      have e := (inK a o c).symm.trans la
      cases e
      exact .inr ⟨_, vs.toArray, _, c, rfl, rfl, rfl, by rw [List.size_toArray, lv]; exact le, by simpa using rv⟩
  have kept : ∀ {b : Addr} {o : Obj}, s.heap.get? b = some o → H b = none → (hidT s.heap H).get? b = some o := fun e n => hidT_get e n
  have ok : HOk P w H s.heap := fun b u e => by
    obtain ⟨⟨rfl, _⟩, rfl⟩ := Hyes e
    exact ⟨la, lm, vs, _, rv, la⟩
  have dk : ∀ {b : Addr} {o : Obj} {es : Array DictEntry} {n : Nat}, s.heap.get? b = some o → o.data = .dict es n → H b = none := fun {b o es n} e d => by
    refine Hno fun c => ?_
    rw [c.1, la] at e
    cases e
    exact nomatch d
  have nsk : ∀ {b : Addr} {m : Str → Option Value}, s.heap.Ns b m → (hidT s.heap H).Ns b m := fun {b m} z => by
    obtain ⟨o, es, n, e, d, r⟩ := z
    exact ⟨o, es, n, kept e (dk e d), d, r⟩
  have kb : K.In (hidT s.heap H) := fun b o e => kept (inK b o e) (Hno fun c => by rw [c.1, c.2] at e; cases e)
  have M : Mod K mg (hidT s.heap H) := ⟨kb, nsk gl, ⟨mb, nsk bl, bb⟩, by obtain ⟨mc, h1, h2⟩ := nl; exact ⟨mc, nsk h1, h2⟩⟩
  have e0 : Env0 P w K mg (hidT s.heap H) callerA [] s H := ⟨rfl, M, fun _ _ e => of_hidT e, Nat.le_of_eq (hidT_size _ _), trivial, fun b hb => absurd (show b ∈ ([] : List Addr) from hb) List.not_mem_nil, ok, .of_eq gs⟩
  refine codeAny_mono (go _ H e0 sq) fun r s' z => ?_
  match r, z with
  | .error _, z => exact False.elim z
  | .ok .next, z => exact False.elim z
  | .ok .brk, z => exact False.elim z
  | .ok .cont, z => exact False.elim z
  | .ok (.ret u), z =>
    obtain ⟨v, H', os, bare, un, ok', rv', ev⟩ := z
    cases (show v = .bl true from ev)
    cases (show u = Value.bool true from rv')
    refine ⟨rfl, OldK.of_keep fun b o e => ?_, os, bare⟩
    cases c : H b with
    | none => exact un.keep b o e c (fun z => absurd (show b ∈ ([] : List Addr) from z) List.not_mem_nil) List.not_mem_nil
    | some u =>
      obtain ⟨_, rfl⟩ := Hyes c
      have g1 := (ok b _ c).1
      have g2 := (ok' b _ (un.frzs b _ _ c)).1
      exact g2.trans (g1.symm.trans e)
/-- a bundled def, called by the caller -/
theorem At.run {x : Str} {st : Stmt} {N ps : List Str} {k : Nat} {fa : Addr} {s : Shared} {H : Hp} {us : List Value} {vs : List V} {Q : VK} (D : At K mg x st ps) (g : mg x = some (.ref fa)) (S : FnScope N ps (defScope st)) (hr : Room (k + 1) callerA)
    (e0 : Env0 P w K mg base callerA [] s H) (hv : Vals vs us) (hl : vs.length = ps.length)
    (go : ∀ (cdv : Value), Room k (callerA.deeper (envOfC x (defScope st) s.heap.objs.size fa cdv)) → (callerA.deeper (envOfC x (defScope st) s.heap.objs.size fa cdv)).guards = some [] →
      ∃ t, PSs (cxOf CX0 P w K mg base N x (defScope st) fa cdv callerA [] s H E0).nox (defBody st) t ∧ t { nx := fun _ H' => Q .non H', rt := Q } (start N vs) H) :
    codeAny (model P w) callerA (.call (.ref fa) ⟨us, []⟩) (CR CX0 [] P w H s Q E0) s := by
  obtain ⟨f, fd, F, g', b⟩ := D
  cases g.symm.trans g'
  obtain ⟨oc, od, kV, doc, pm, an, cdv, ct, osl, rfl, lk, hc⟩ := F.ex
  have inK : K.In s.heap := e0.mod.kin.keeps fun b o e => (e0.bs b o e).1
  have hlu : us.length = ps.length := by rw [← hv.length]; exact hl
  have hb := b s us inK (by rw [List.append_nil]; exact hlu)
  rw [List.append_nil] at hb
  obtain ⟨t, h1, h2⟩ := go cdv (hr.deeper _) rfl
  exact run_def lk hc S hr e0 hv hl hb h1 h2
end
/-- the end of a law row -/
theorem walk_law {l : PySem.W.OpenLaw} {n : Nat} {q : Program} {loose : List Str} {XP : (Str → Option Value) → Heap → Prop} {YP : World → Heap → Prop} {d : DefRec} {K : Params → PySem.W.Frag}
    (hn : l.most = some n) (hn2 : n ≤ sizeLine) (hdf : d.params.defaults = []) (hY : ∀ (w : World) (h : Heap), YP w h → (K w.params).In h)
    (F : ∀ (w : World) (mg : Str → Option Value) (fa : Addr) (h : Heap), (K w.params).In h → h.Ns mainGlobals mg → mg d.name = some (.ref fa) →
      ∀ (base : Heap) (s : Shared) (H : Hp) (a : Addr) (ns : List Int), ns.length ≤ n → (∀ z ∈ ns, Builtin.Int.intBits z ≤ 1048576) → Env0 l.prog w (K w.params) mg base callerA [] s H → SqL (K w.params) H a (ns.map V.int) →
        codeAny (model l.prog w) callerA (.call (.ref fa) ⟨[.ref a], []⟩) (CR CX0 [] l.prog w H s (fun v _ => v = .bl true) E0) s) :
    PySem.W.WalkO q loose XP YP l.row.toRowW d [] (fun f vs => PySem.call f vs) := by
  refine Att.attach_callB hn hdf fun w s0 s mg mb fa o pm cd doc a vs ns G Y ho hd hcd hmg la ia hl hbits gs => ?_
  have inK := hY w _ Y
  exact law_in inK G.T.g G.T.b G.T.builtins G.T.nolimit gs la ia (Nat.le_trans hl hn2) fun base H e0 sq => F w mg fa _ inK G.T.g hmg base s H a ns hl hbits e0 sq
section
variable {K : PySem.W.Frag} {mg : Str → Option Value} {h : Heap}
theorem at_mk {x : Str} {st : Stmt} {ps : List Str} {f : Addr} {oc : Value} {od an : Option Addr} {osl : Array (Option Value)} {kV doc pm cdv ct : Value} (inK : K.In h) (G : h.Ns mainGlobals mg) (a : PySem.W.nsIn K mainGlobals x = some (some (.ref f)))
    (l : K.lookup f = some ⟨oc, od, .func (PySem.W.fnOf x x (defArgs st) (defBody st) (defScope st) .none kV doc pm an cdv ct), osl⟩) (c : PySem.W.codeIn K cdv x = true) (k : PySem.W.keepIn K (.ref f) = true)
    (b : ∀ (kV doc pm : Value) (an : Option Addr) (cdv ct : Value) (us : List Value), us.length = ps.length → bindArgs (PySem.W.fnOf x x (defArgs st) (defBody st) (defScope st) .none kV doc pm an cdv ct) ⟨us, []⟩ = pure (ps.zip us)) : At K mg x st ps :=
  ⟨f, _, fun_mk l c k, PySem.W.mg_of inK G a, (fun_mk l c k).binds b⟩
theorem xc_mk {x : Str} {C : Addr} (inK : K.In h) (G : h.Ns mainGlobals mg) (g : PySem.W.nsIn K mainGlobals x = some (some (.ref C))) (k : PySem.W.keepIn K (.ref C) = true)
    (q : PySem.W.excIn K C [.type "ValueError", .type "Exception", .type "BaseException", .type "object"] "ValueError.__new__" = true) (b : PySem.W.subIn K (.ref C) (.type "BaseException") = some true) (t : PySem.W.typeIn K (.ref C) = some (.type "type")) (c : PySem.W.isClsIn K C = true)
    (e1 : PySem.W.findIn K (.ref C) "__getattribute__" = some (some (.builtin "BaseException.__getattribute__"))) (e2 : PySem.W.findIn K (.ref C) "__getattr__" = some none) (e4 : PySem.W.hasDictIn K C = true) (e5 : PySem.W.findIn K (.ref C) "__class__" = some (some (.builtin "object.__class__")))
    (e6 : PySem.W.specialIn K (.builtin "object.__class__") "__get__" = some (some (.builtin "getset_descriptor.__get__"))) (e7 : PySem.W.takesIn K (.builtin "object.__class__") = some true) (e8 : PySem.W.mroIn K C (.type "object") = some true) : XC K mg x C :=
  ⟨PySem.W.mg_of inK G g, k, q, b, t, c, ⟨e1, e2, b, e4, e5, e6, e7, e8⟩⟩
theorem tup_mk {a : Addr} {items : Array Value} {dd : Option Addr} {n : Nat} {sl : Array (Option Value)} (l : K.lookup a = some ⟨.type "tuple", dd, .seq items n, sl⟩) : ∃ (dd : Option Addr) (n : Nat) (sl : Array (Option Value)), K.lookup a = some ⟨.type "tuple", dd, .seq items n, sl⟩ := ⟨_, _, _, l⟩
theorem tup2s_mk {a : Addr} {x y : Str} {t1 t2 : Tok} {dd : Option Addr} {n : Nat} {sl : Array (Option Value)} (l : K.lookup a = some ⟨.type "tuple", dd, .seq #[.str x t1, .str y t2] n, sl⟩) : ∃ (dd : Option Addr) (n : Nat) (sl : Array (Option Value)) (t1 t2 : Tok), K.lookup a = some ⟨.type "tuple", dd, .seq #[.str x t1, .str y t2] n, sl⟩ := ⟨_, _, _, _, _, l⟩
theorem kit_mk {D C : Addr} {b : Bool} (n : (Value.ref D == Value.ref C) = false) (c : PySem.W.isClsIn K C = true) (t : PySem.W.typeIn K (.ref C) = some (.type "type")) (s : PySem.W.subIn K (.ref D) (.ref C) = some b) : PySem.W.kitOne K (.ref D) (.ref C) = some b := by
  have e : ((PySem.W.clsIn K C).isSome && PySem.W.typeIn K (.ref C) == some (.type "type")) = true := by
    have c' : (PySem.W.clsIn K C).isSome = true := c
    rw [c', t] <;> rfl
  show (if (Value.ref D == Value.ref C) = true then some true else (if ((PySem.W.clsIn K C).isSome && PySem.W.typeIn K (.ref C) == some (.type "type")) = true then PySem.W.subIn K (.ref D) (.ref C) else none)) = some b
  rw [if_neg (by rw [n]; exact Bool.false_ne_true), if_pos e]
  exact s
theorem kit_same {K : PySem.W.Frag} {D : Addr} : PySem.W.kitOne K (.ref D) (.ref D) = some true := by
  show (if (Value.ref D == Value.ref D) = true then some true else _) = some true
  rw [if_pos (beq_self_eq_true _)]
end
end FK

/-! Own readings: loops and comprehensions over a walk, what stands in the heap behind them. -/
namespace FK
open PySem PySem.Spec PyProof.Rows L2
/-- all but what stands at d is as it was -/
def But (d : Addr) (H H' : Hp) : Prop := ∀ b o, b ≠ d → H b = some o → H' b = some o
theorem But.refl {d : Addr} {H : Hp} : But d H H := fun _ _ _ h => h
theorem But.trans {d : Addr} {H H1 H2 : Hp} (a : But d H H1) (b : But d H1 H2) : But d H H2 := fun c o n h => b c o n (a c o n h)
theorem But.of {d : Addr} {H H' : Hp} (a : Same H H') : But d H H' := fun c o _ h => a c o h
theorem But.upd {d : Addr} {H : Hp} {o : HO} : But d H (upd H d o) := fun c u n h => by rw [upd_ne n]; exact h
theorem same_new {H : Hp} {p : Addr} {o : HO} (h : H p = none) : Same H (upd H p o) := fun b u e => by
  have n : b ≠ p := fun z => by rw [z, h] at e; cases e
  rw [upd_ne n]
  exact e
theorem Same.tupS {K : PySem.W.Frag} {H H' : Hp} {a : Addr} {xs : List V} (e : Same H H') (h : SqT K H a xs) : SqT K H' a xs := by
  rcases h with (h | ⟨o, h⟩) | h
  · exact .inl (.inl (e _ _ h))
  · exact .inl (.inr ⟨o, e _ _ h⟩)
  · exact .inr h
/-- a for over a walk, what is walked told by hw -/
theorem rd_for {wi : TI} {g : TG} {tb : TS} {D : Ends} {σ : L2.St} {H H1 : Hp} {J : It} {n : Nat} {G : Hp → Prop} {Y : Nat → Hp → V → Hp → Prop} (hw : ∀ R : It → Hp → Prop, R J H1 → wi σ H R) (w : Walk J n G Y) (Pv : Nat → L2.St → Hp → Prop)
    (h0 : Pv 0 σ H1) (hG : ∀ i σ H, i ≤ n → Pv i σ H → G H)
    (hs : ∀ i x σ H H', i < n → Pv i σ H → Y i H x H' → g x σ H' fun σ2 H2 => tb { D with nx := Pv (i + 1), ct := Pv (i + 1), bk := D.nx } σ2 H2) (hd : ∀ σ H, Pv n σ H → D.nx σ H) : tFor wi g tb D σ H :=
  hw _ (for_it w Pv h0 hG hs hd)
/-- a comprehension over a walk, one plain name, no test: Pv by the turn, the items made and the heap; the new list stands at D, told apart -/
theorem rd_lc {wi : TI} {i : Nat} {te : TE} {vs : List Nat} {σ : L2.St} {H H1 : Hp} {J : It} {n : Nat} {G : Hp → Prop} {Y : Nat → Hp → V → Hp → Prop} {Q : VK} (hw : ∀ R : It → Hp → Prop, R J H1 → wi σ H R) (w : Walk J n G Y)
    (Pv : Nat → List V → Hp → Prop) (h0 : ∀ D, H1 D = none → Pv 0 [] (upd H1 D (.lst [])))
    (hk : ∀ D i acc y H, H1 D = none → H D = some (.lst acc) → Pv i (acc ++ [y]) H → Pv i (acc ++ [y]) (upd H D (.lst (acc ++ [y]))))
    (hG : ∀ i acc H, i ≤ n → Pv i acc H → G H) (hl : n < sizeLine)
    (hv : ∀ x, wipe ((wipe σ vs).set i (some x)) vs = wipe σ vs)
    (hs : ∀ D j x acc H H' (R : VK), H1 D = none → j < n → acc.length = j → Pv j acc H → H D = some (.lst acc) → Y j H x H' →
      (∀ y H4, H4 D = some (.lst acc) → Pv (j + 1) (acc ++ [y]) H4 → R y H4) → te ((wipe σ vs).set i (some x)) H' R)
    (hd : ∀ D acc H, H1 D = none → acc.length = n → Pv n acc H → H D = some (.lst acc) → Q (.ref D) H) : tLc wi (gName i) tYes te vs σ H Q := by
  refine hw _ fun D hD => ?_
  refine lc_it w (fun j H => ∃ acc, acc.length = j ∧ H D = some (.lst acc) ∧ Pv j acc H) ⟨[], rfl, upd_same, h0 D hD⟩ (fun j H hj ⟨acc, _, _, p⟩ => hG j acc H hj p) ?_ ?_
  · intro j x H' H'' hj ⟨acc, ha, hD2, p⟩ y
    refine ⟨hv x, ?_⟩
    simp only [tYes, if_true]
    refine hs D j x acc H' H'' _ hD hj ha p hD2 y fun y' H4 z1 z2 => ?_
    exact ⟨acc, z1, by omega, acc ++ [y'], by rw [List.length_append, ha]; rfl, upd_same, hk D _ acc y' H4 hD z1 z2⟩
  · intro H' ⟨acc, ha, hD2, p⟩
    exact hd D acc H' hD ha p hD2
/-- a comprehension whose items touch nothing: the list zs is made at a new place -/
theorem rd_lc_pure {wi : TI} {i : Nat} {te : TE} {vs : List Nat} {σ : L2.St} {H H1 : Hp} {J : It} {G : Hp → Prop} {Y : Nat → Hp → V → Hp → Prop} {Q : VK} (zs : List V) (hw : ∀ R : It → Hp → Prop, R J H1 → wi σ H R) (w : Walk J zs.length G Y)
    (hG : ∀ D o, H1 D = none → G (upd H1 D o)) (hl : zs.length < sizeLine) (hv : ∀ x, wipe ((wipe σ vs).set i (some x)) vs = wipe σ vs)
    (hs : ∀ D j x z H' H'' (R : VK), H1 D = none → zs[j]? = some z → H' = upd H1 D (.lst (zs.take j)) → Y j H' x H'' → R z H'' → te ((wipe σ vs).set i (some x)) H'' R)
    (hd : ∀ D, H1 D = none → Q (.ref D) (upd H1 D (.lst zs))) (hY : ∀ j H' x H'', Y j H' x H'' → H'' = H') : tLc wi (gName i) tYes te vs σ H Q := by
  have one : ∀ {D D2 : Addr} {o : HO} {u : HO}, H1 D = none → upd H1 D2 o D = some u → D = D2 := fun {D D2 o u} h1 h2 => by
    by_cases c : D = D2
    · exact c
    · rw [upd_ne c, h1] at h2; cases h2
  refine rd_lc hw w (fun j acc H' => ∃ D acc0, H1 D = none ∧ H' = upd H1 D (.lst acc0) ∧ acc = zs.take j) (fun D hD => ⟨D, [], hD, rfl, by simp⟩) ?_ ?_ hl hv ?_ ?_
  · rintro D j acc y H' hD hD2 ⟨D2, acc0, hD3, rfl, e⟩
    have e2 := one hD hD2
    subst e2
    exact ⟨D, _, hD, upd_upd, e⟩
  · rintro j acc H' _ ⟨D, acc0, hD, rfl, _⟩
    exact hG D _ hD
  · rintro D j x acc H' H'' R hD hj ha ⟨D2, acc0, hD3, rfl, rfl⟩ hD2 y go
    have e2 := one hD hD2
    subst e2
    rw [upd_same] at hD2
    cases hD2
    have e3 := hY _ _ _ _ y
    subst e3
    refine hs D j x zs[j] _ _ R hD (List.getElem?_eq_getElem hj) rfl y ?_
    exact go zs[j] _ upd_same ⟨D, _, hD, rfl, by rw [List.take_add_one, List.getElem?_eq_getElem hj]; rfl⟩
  · rintro D acc H' hD ha ⟨D2, acc0, hD3, rfl, rfl⟩ hD2
    have e2 := one hD hD2
    subst e2
    rw [upd_same] at hD2
    cases hD2
    rw [List.take_length]
    exact hd D hD
theorem same_at {H H' : Hp} {p : Addr} {o : HO} (h : H p = none) (s : Same H H') : Same H (upd H' p o) := fun b u e => by
  have n : b ≠ p := fun z => by rw [z, h] at e; cases e
  rw [upd_ne n]
  exact s b u e
/-- a comprehension whose items only lay new things: the list zs is made -/
theorem rd_lc_same {wi : TI} {i : Nat} {te : TE} {vs : List Nat} {σ : L2.St} {H H1 : Hp} {J : It} {G : Hp → Prop} {Y : Nat → Hp → V → Hp → Prop} {Q : VK} (zs : List V) (hw : ∀ R : It → Hp → Prop, R J H1 → wi σ H R) (w : Walk J zs.length G Y)
    (hG : ∀ H', Same H1 H' → G H') (hl : zs.length < sizeLine) (hv : ∀ x, wipe ((wipe σ vs).set i (some x)) vs = wipe σ vs)
    (hs : ∀ j x z H' H'' (R : VK), zs[j]? = some z → Same H1 H' → Y j H' x H'' → (∀ H4, Same H'' H4 → R z H4) → te ((wipe σ vs).set i (some x)) H'' R)
    (hd : ∀ D H', H1 D = none → Same H1 H' → H' D = some (.lst zs) → Q (.ref D) H') (hY : ∀ j H' x H'', Y j H' x H'' → Same H' H'') : tLc wi (gName i) tYes te vs σ H Q := by
  refine rd_lc hw w (fun j acc H' => Same H1 H' ∧ acc = zs.take j) (fun D hD => ⟨same_new hD, by simp⟩) ?_ ?_ hl hv ?_ ?_
  · rintro D j acc y H' hD hD2 ⟨s, e⟩
    exact ⟨same_at hD s, e⟩
  · rintro j acc H' _ ⟨s, _⟩
    exact hG _ s
  · rintro D j x acc H' H'' R hD hj ha ⟨s, rfl⟩ hD2 y go
    refine hs j x zs[j] _ _ R (List.getElem?_eq_getElem hj) s y fun H4 s4 => ?_
    have s5 := (hY _ _ _ _ y).trans s4
    exact go zs[j] _ (s5 _ _ hD2) ⟨s.trans s5, by rw [List.take_add_one, List.getElem?_eq_getElem hj]; rfl⟩
  · rintro D acc H' hD ha ⟨s, rfl⟩ hD2
    rw [List.take_length] at hD2
    exact hd D H' hD s hD2
/-- a comprehension with a test whose items touch nothing -/
theorem rd_lc_filter {wi : TI} {i : Nat} {tt : TT} {te : TE} {vs : List Nat} {σ : L2.St} {H H1 : Hp} {J : It} {G : Hp → Prop} {Q : VK} (xs : List V) (p : V → Bool) (f : V → V) (hw : ∀ R : It → Hp → Prop, R J H1 → wi σ H R) (w : Walk J xs.length G (YAt xs))
    (hG : ∀ D o, H1 D = none → G (upd H1 D o)) (hl : xs.length < sizeLine) (hv : ∀ x, wipe ((wipe σ vs).set i (some x)) vs = wipe σ vs)
    (ht : ∀ x H' (R : Bool → Hp → Prop), x ∈ xs → R (p x) H' → tt ((wipe σ vs).set i (some x)) H' R)
    (hs : ∀ x H' (R : VK), x ∈ xs → p x = true → R (f x) H' → te ((wipe σ vs).set i (some x)) H' R)
    (hd : ∀ D, H1 D = none → Q (.ref D) (upd H1 D (.lst ((xs.filter p).map f)))) : tLc wi (gName i) tt te vs σ H Q := by
  refine hw _ fun D hD => ?_
  refine lc_it w (fun j H' => H' = upd H1 D (.lst (((xs.take j).filter p).map f))) (by simp) (fun j H' hj e => by rw [e]; exact hG D _ hD) ?_ ?_
  · rintro j x H' H'' hj rfl ⟨rfl, hx⟩
    have hm : x ∈ xs := List.mem_of_getElem? hx
    have et : xs.take (j + 1) = xs.take j ++ [x] := by rw [List.take_add_one, hx]; rfl
    refine ⟨hv x, ht x _ _ hm ?_⟩
    cases e : p x with
    | true =>
      refine iteT (hs x _ _ hm e ⟨_, upd_same, ?_, ?_⟩)
      · rw [List.length_map]
        exact Nat.lt_of_le_of_lt (Nat.le_trans (List.length_filter_le _ _) (by rw [List.length_take]; exact Nat.min_le_right _ _)) hl
      · rw [upd_upd, et, List.filter_append, List.map_append]
        simp [e]
    | false =>
      refine iteF ?_
      rw [et, List.filter_append]
      simp [e]
  · rintro H' rfl
    rw [List.take_length]
    exact hd D hD
end FK

/-! Own kit: methods of own classes bundled with where they stand, calls of them, instances made. -/
namespace FK
open PySem PySem.Spec PyProof.Rows L2
section
variable {P : Program} {w : World} {K : PySem.W.Frag} {mg : Str → Option Value} {base : Heap}
/-- the method m (with its full name q) of the class at C is the def of the statement st -/
def MAt (K : PySem.W.Frag) (C : Addr) (m q : Str) (st : Stmt) (ps : List Str) : Prop :=
  ∃ (f : Addr) (fd : FuncData), Fun K m q st f fd ∧ Meth K C m f ∧ Binds K fd ps []
/-- the same of __init__ -/
def IAt (K : PySem.W.Frag) (C : Addr) (q : Str) (st : Stmt) (ps : List Str) : Prop :=
  ∃ (f : Addr) (fd : FuncData), Fun K "__init__" q st f fd ∧ Mk K C f ∧ Binds K fd ps []
def MHas (P : Program) (w : World) (K : PySem.W.Frag) (mg : Str → Option Value) (base : Heap) (CX : CXT) (k : Nat) (C : Addr) (m : Str) (ps : List Str) (sp : Sp) : Prop :=
  ∃ (f : Addr) (fd : FuncData), FnOk P w K mg base CX k f fd ps sp ∧ Meth K C m f ∧ Binds K fd ps []
def IHas (P : Program) (w : World) (K : PySem.W.Frag) (mg : Str → Option Value) (base : Heap) (CX : CXT) (k : Nat) (C : Addr) (ps : List Str) (sp : Sp) : Prop :=
  ∃ (f : Addr) (fd : FuncData), FnOk P w K mg base CX k f fd ps sp ∧ Mk K C f ∧ Binds K fd ps []
theorem MHas.mono {CX : CXT} {j k : Nat} {C : Addr} {m : Str} {ps : List Str} {sp : Sp} (h : MHas P w K mg base CX j C m ps sp) (hk : j ≤ k) : MHas P w K mg base CX k C m ps sp := by
  obtain ⟨f, fd, h1, h2⟩ := h
  exact ⟨f, fd, h1.mono hk, h2⟩
theorem MAt.ok {C : Addr} {m q : Str} {st : Stmt} {N ps : List Str} {k : Nat} {sp : Sp} (D : MAt K C m q st ps) (S : FnScope N ps (defScope st)) (len : ∀ vs H Q E, sp vs H Q E → vs.length = ps.length)
    (hbody : ∀ (f : Addr) (cdv : Value) (A : Around) (outer : List Env) (s : Shared) (H : Hp) (vs : List V) (Q : VK) (E : XK), Room k (A.deeper (envOfC q (defScope st) s.heap.objs.size f cdv)) → sp vs H Q E →
      ∃ t, PSs (cxOf CX0 P w K mg base N q (defScope st) f cdv A outer s H E).nox (defBody st) t ∧ t { nx := fun _ H' => Q .non H', rt := Q } (start N vs) H) : MHas P w K mg base CX0 (k + 1) C m ps sp := by
  obtain ⟨f, fd, F, g, b⟩ := D
  exact ⟨f, fd, F.ok S len (hbody f), g, b⟩
theorem MAt.okX {C : Addr} {m q : Str} {st : Stmt} {N ps : List Str} {k : Nat} {sp : Sp} (D : MAt K C m q st ps) (S : FnScope N ps (defScope st)) (len : ∀ vs H Q E, sp vs H Q E → vs.length = ps.length)
    (hbody : ∀ (f : Addr) (cdv : Value) (A : Around) (outer : List Env) (s : Shared) (H : Hp) (vs : List V) (Q : VK) (E : XK), Room k (A.deeper (envOfC q (defScope st) s.heap.objs.size f cdv)) → sp vs H Q E →
      ∃ t, PSs (cxOf (L2.CX P w) P w K mg base N q (defScope st) f cdv A outer s H E) (defBody st) t ∧ t { nx := fun _ H' => Q .non H', rt := Q } (start N vs) H) : MHas P w K mg base (L2.CX P w) (k + 1) C m ps sp := by
  obtain ⟨f, fd, F, g, b⟩ := D
  exact ⟨f, fd, F.okX S len (hbody f), g, b⟩
theorem IAt.ok {C : Addr} {q : Str} {st : Stmt} {N ps : List Str} {k : Nat} {sp : Sp} (D : IAt K C q st ps) (S : FnScope N ps (defScope st)) (len : ∀ vs H Q E, sp vs H Q E → vs.length = ps.length)
    (hbody : ∀ (f : Addr) (cdv : Value) (A : Around) (outer : List Env) (s : Shared) (H : Hp) (vs : List V) (Q : VK) (E : XK), Room k (A.deeper (envOfC q (defScope st) s.heap.objs.size f cdv)) → sp vs H Q E →
      ∃ t, PSs (cxOf CX0 P w K mg base N q (defScope st) f cdv A outer s H E).nox (defBody st) t ∧ t { nx := fun _ H' => Q .non H', rt := Q } (start N vs) H) : IHas P w K mg base CX0 (k + 1) C ps sp := by
  obtain ⟨f, fd, F, g, b⟩ := D
  exact ⟨f, fd, F.ok S len (hbody f), g, b⟩
end
section
variable {X : Cx} {k : Nat} {x m : Str} {C : Addr} {ps : List Str} {sp : Sp} {p pos apos : Pos} {o e : Expr} {es : List Expr} {t : TA} {ta : TE}
/-- o.m(e, ..) -/
theorem pe_m {CX : CXT} {E : XK} {pl : Sem Bool} (he : PE X o ta) (c : Cls X.K C) (h : MHas X.prog X.w X.K X.mg X.base CX k C m ps sp) (hr : Room k X.A) (hx : Passes CX X E) (ha : PA X (e :: es) t)
    (hst : starEach (e :: es) X.env = (false, eval e X.env) :: starEach es X.env := by rfl) (hpl : (backTo pos (starEach es X.env)).any (·.1) = false := by rfl)
    (ht : eval (.Call (.Attribute o m apos) (e :: es) [] pos) X.env = (do
      let ov ← eval o X.env
      standAt apos.atName
      let (f, first) ← holding [ov] (getMethod ov m pl)
      callWith pos f first (backTo pos (starEach (e :: es) X.env)) (backToKw pos (keywordEach [] X.env))) := by rfl) :
    PE X (.Call (.Attribute o m apos) (e :: es) [] pos) (tMeth C m sp [] E ta t) := by
  obtain ⟨f, fd, F, g, b⟩ := h
  exact pe_meth he c g F hr b .nil hx ha hst hpl ht
theorem pe_m0 {CX : CXT} {E : XK} {pl : Sem Bool} (he : PE X o ta) (c : Cls X.K C) (h : MHas X.prog X.w X.K X.mg X.base CX k C m ps sp) (hr : Room k X.A) (hx : Passes CX X E)
    (ht : eval (.Call (.Attribute o m apos) [] [] pos) X.env = (do
      let ov ← eval o X.env
      standAt apos.atName
      let (f, first) ← holding [ov] (getMethod ov m pl)
      callWith pos f first (backTo pos (starEach [] X.env)) (backToKw pos (keywordEach [] X.env))) := by rfl) :
    PE X (.Call (.Attribute o m apos) [] [] pos) (tMeth C m sp [] E ta tNil) := by
  obtain ⟨f, fd, F, g, b⟩ := h
  exact pe_meth0 he c g F hr b .nil hx ht
/-- C(e, ..) -/
theorem pe_i {CX : CXT} {E : XK} (h : IHas X.prog X.w X.K X.mg X.base CX k C ps sp) (hr : Room (k + 1) X.A) (hm : X.mg x = some (.ref C)) (hx : Passes CX X E) (ha : PA X (e :: es) t) (hg : Gl X x := by rfl)
    (hdb : (x == ("__debug__" : Str)) = false := by decide) (he : starEach (e :: es) X.env = (false, eval e X.env) :: starEach es X.env := by rfl) (hpl : (backTo pos (starEach es X.env)).any (·.1) = false := by rfl) :
    PE X (.Call (.Name x p) (e :: es) [] pos) (tMake C sp [] E t) := by
  obtain ⟨f, fd, F, M, b⟩ := h
  exact pe_make M F hr hg hm b .nil hx ha hdb he hpl
end
section
variable {K : PySem.W.Frag} {mg : Str → Option Value} {h : Heap}
theorem mat_mk {C : Addr} {m q : Str} {st : Stmt} {ps : List Str} {f : Addr} {oc : Value} {od an : Option Addr} {osl : Array (Option Value)} {kV doc pm cdv ct : Value}
    (a : PySem.W.findIn K (.ref C) m = some (some (.ref f))) (i : PySem.W.isFn K (.ref f) = true)
    (l : K.lookup f = some ⟨oc, od, .func (PySem.W.fnOf m q (defArgs st) (defBody st) (defScope st) .none kV doc pm an cdv ct), osl⟩) (c : PySem.W.codeIn K cdv q = true) (k : PySem.W.keepIn K (.ref f) = true)
    (b : ∀ (kV doc pm : Value) (an : Option Addr) (cdv ct : Value) (us : List Value), us.length = ps.length → bindArgs (PySem.W.fnOf m q (defArgs st) (defBody st) (defScope st) .none kV doc pm an cdv ct) ⟨us, []⟩ = pure (ps.zip us)) : MAt K C m q st ps :=
  ⟨f, _, fun_mk (st := st) l c k, ⟨a, i, k⟩, Binds.all fun us hl => b _ _ _ _ _ _ us hl⟩
theorem noattr_mk {C : Addr} {f : Str} (h : PySem.W.findIn K (.ref C) f = some none) : NoAttr K C f := h
theorem iat_mk {C : Addr} {q : Str} {st : Stmt} {ps : List Str} {f : Addr} {oc : Value} {od an : Option Addr} {osl : Array (Option Value)} {kV doc pm cdv ct : Value}
    (mk : PySem.W.makesIn K C = true) (a : PySem.W.findIn K (.ref C) "__init__" = some (some (.ref f))) (i : PySem.W.isFn K (.ref f) = true) (kc : PySem.W.keepIn K (.ref C) = true)
    (l : K.lookup f = some ⟨oc, od, .func (PySem.W.fnOf "__init__" q (defArgs st) (defBody st) (defScope st) .none kV doc pm an cdv ct), osl⟩) (c : PySem.W.codeIn K cdv q = true) (k : PySem.W.keepIn K (.ref f) = true)
    (b : ∀ (kV doc pm : Value) (an : Option Addr) (cdv ct : Value) (us : List Value), us.length = ps.length → bindArgs (PySem.W.fnOf "__init__" q (defArgs st) (defBody st) (defScope st) .none kV doc pm an cdv ct) ⟨us, []⟩ = pure (ps.zip us)) : IAt K C q st ps :=
  ⟨f, _, fun_mk (st := st) l c k, ⟨mk, a, i, kc⟩, Binds.all fun us hl => b _ _ _ _ _ _ us hl⟩
end
end FK

/-! Own rules: a text backwards, the least text of a list, zip of a text and a tuple. -/
namespace FK
open PySem PySem.Spec PyProof.Rows L2
/-! ### z[::-1], z a text -/
def revS (z : Str) : Str := ⟨z.cps.toList.reverse.toArray⟩
def tRevS (te : TE) : TE := fun σ H Q => te σ H fun x H1 => ∃ z, x = .str z ∧ z.length ≤ sizeLine ∧ Q (.str (revS z)) H1
theorem revS_pick (z : Str) : (⟨((Builtin.Str.strSliceIndices none none (-1) z.length).filterMap (z.cps[·]?)).toArray⟩ : Str) = revS z := by
  have e : Builtin.Str.strSliceIndices none none (-1) z.length = (List.range z.cps.size).reverse := by
    show sliceRange ((z.length : Int) - 1) (-1) (-1) = _
    rw [PySem.W.krv_sliceRange, PySem.W.krv_range]
    rfl
  rw [e, List.filterMap_reverse, PySem.W.krv_all]
  rfl
theorem pe_revS {X : Cx} {e : Expr} {te : TE} {k : Nat} {p1 p2 p3 pos : Pos} (he : PE X e te) : PE X (.Subscript e (.Slice none none (some (.UnaryOp .USub (.Constant (.int 1) k p1) p2)) p3) pos) (tRevS te) := by
  refine ⟨fun pins s σ H Q I h => ?_⟩
  refine Subscript_ (thn (he.run pins s σ H _ I h) fun v s1 ⟨x, H1, I1, r1, q1⟩ => ?_)
  obtain ⟨z, ex, hz, q⟩ := q1
  subst ex
  obtain ⟨tz, rfl⟩ := r1
  have hst : PO X (some (.UnaryOp .USub (.Constant (.int 1) k p1) p2)) (tPart (tUn (rU fun i => .int (-i)) (tC (.int 1)))) := po_some (pe_un un_neg pe_int)
  refine wpAny_Slice (thn (po_none.run pins s1 σ H1 (fun o H2 => o = none ∧ H2 = H1) I1 ⟨rfl, rfl⟩) fun vl s2 ⟨l, H2, I2, pl, el, e2⟩ => ?_)
  subst el e2
  refine thn (po_none.run pins s2 σ H2 (fun o H3 => o = none ∧ H3 = H2) I2 ⟨rfl, rfl⟩) fun vu s3 ⟨u, H3, I3, pu, eu, e3⟩ => ?_
  subst eu e3
  refine thn (hst.run pins s3 σ H3 (fun o H4 => o = some (-1) ∧ H4 = H3) I3 ⟨1, rfl, -1, rfl, rfl, rfl⟩) fun vs s4 ⟨o, H4, I4, ps, eo, e4⟩ => ?_
  subst eo e4
  have I5 : Inv X pins σ H4 { s4 with heap := s4.heap.push { cls := .type "slice", data := .fields #[vl, vu, vs] } } := I4.kept (t' := s4.toks) fun b ob q => Heap.get?_push_of_some _ q
  show wpAny (model X.prog X.w) X.A (subscriptTail e (.Slice none none (some (.UnaryOp .USub (.Constant (.int 1) k p1) p2)) p3) (.str z tz) (.ref s4.heap.objs.size)) (EP X pins σ Q) X.xe { s4 with heap := s4.heap.push { cls := .type "slice", data := .fields #[vl, vu, vs] } }
  refine tail_any (ops := [.str z tz, .ref s4.heap.objs.size]) (typeIs_str _ _ _) PySem.F.slot_str_getitem.lookup ?_ (by with_unfolding_all rfl)
  obtain ⟨l, rfl, hl⟩ := IsPart.raw pl
  obtain ⟨u, rfl, hu⟩ := IsPart.raw pu
  obtain ⟨st, rfl, hs⟩ := IsPart.raw ps
  have el : l = none := by cases l <;> simp_all
  have eu : u = none := by cases u <;> simp_all
  subst el eu
  refine wpAny_getItem_str_slice (l := none) (u := none) (st := st) ⟨_, Heap.get?_push_size _ rfl, rfl, rfl⟩ (by rw [hs]; rfl) ?_
  have e1 : (st.map (·.1)).getD 1 = (-1 : Int) := by rw [hs]; rfl
  have hne : ¬ (((st.map (·.1)).getD 1 == 1 && (slicePicked z none none st).length == z.length) = true) := by rw [e1]; simp
  have ep : (⟨((slicePicked z none none st).filterMap (z.cps[·]?)).toArray⟩ : Str) = revS z := by
    rw [← revS_pick z]
    unfold slicePicked
    rw [e1]
    rfl
  unfold sliceMade
  rw [if_neg hne, ep]
  exact ⟨by show (z.cps.toList.reverse.toArray.size) ≤ sizeLine; rw [List.size_toArray, List.length_reverse, Array.length_toList]; exact hz, .str _, H4, I5.tok _, ⟨_, rfl⟩, q⟩
/-! ### min(xs), xs a list of texts -/
def txts (xs : List Str) (i : Nat) : List Nat := (xs.getD i Str.empty).cps.toList
theorem strs_lt {prog : Program} {w : World} {A : Around} {P : Nat → Value → Prop} (val : Nat → Str) (hval : ∀ i v, P i v → ∃ t, v = .str (val i) t) :
    CmpOf prog w A .Lt P (fun i j => decide ((val i).cps.toList < (val j).cps.toList)) := fun i j vi vj s Q E hi hj h => by
  obtain ⟨t, rfl⟩ := hval i vi hi
  obtain ⟨u, rfl⟩ := hval j vj hj
  exact richCompare_gives (op := .Lt) (typeIs_str s _ t) (typeIs_str s _ u) PySem.F.slot_str_lt PySem.F.entry_str_lt (PySem.F.args_str_lt_2 _ _) (gives_str_lt _ _ t u) (fun x => nomatch x) h
theorem argBest_le (bt : Nat → Nat → Bool) (k : Nat) : argBest bt k ≤ k := by
  induction k with
  | zero => exact Nat.le_refl _
  | succ k ih =>
    show (if bt (k + 1) (argBest bt k) then k + 1 else argBest bt k) ≤ k + 1
    split
    · exact Nat.le_refl _
    · omega
theorem argBest_str (val : Nat → List Nat) (k : Nat) : ∀ j, j ≤ k → ¬ val j < val (argBest (fun i j => decide (val i < val j)) k) := by
  induction k with
  | zero => intro j hj; obtain rfl : j = 0 := by omega
            exact List.lt_irrefl _
  | succ k ih =>
    intro j hj
    show ¬ val j < val (if decide (val (k + 1) < val (argBest (fun i j => decide (val i < val j)) k)) = true then k + 1 else argBest (fun i j => decide (val i < val j)) k)
    split
    · rename_i c
      have c := of_decide_eq_true c
      rcases Nat.lt_or_ge k j with h | h
      · obtain rfl : j = k + 1 := by omega
        exact List.lt_irrefl _
      · exact fun h2 => ih j h (List.lt_trans h2 c)
    · rename_i c
      have c : ¬ val (k + 1) < _ := fun z => c (decide_eq_true z)
      rcases Nat.lt_or_ge k j with h | h
      · obtain rfl : j = k + 1 := by omega
        exact c
      · exact ih j h
def rMinS (K : PySem.W.Frag) : List V → Hp → VK → Prop := fun vs H Q => ∃ (a : Addr) (xs : List Str), vs = [V.ref a] ∧ SqL K H a (xs.map V.str) ∧ 0 < xs.length ∧
  ∀ m, m ∈ xs → (∀ y, y ∈ xs → ¬ y.cps.toList < m.cps.toList) → Q (.str m) H
theorem cr_minS {X : Cx} (hc : X.calm = true) : CallR X (.builtin "min") (rMinS X.K) := by
  intro pins s σ H vs us Q I r h
  obtain ⟨a, xs, rfl, hs, hne, q⟩ := h
  obtain ⟨its, rv, hl0, _⟩ := I.list hs
  have hl := hl0.isList
  rw [Vals.ref1 r]
  have hlen : its.length = xs.length := by rw [← rv.length, List.length_map]
  have hval : ∀ (i : Nat) (v : Value), its.toArray[i]? = some v → ∃ t, v = Value.str (xs.getD i Str.empty) t := fun i v e => by
    rw [List.getElem?_toArray] at e
    have hi : i < its.length := (List.getElem?_eq_some_iff.mp e).1
    have hx : (xs.map V.str)[i]? = some (.str (xs.getD i Str.empty)) := by
      rw [List.getElem?_map, List.getD_eq_getElem?_getD, List.getElem?_eq_getElem (by omega)]
      rfl
    obtain ⟨u, hu, ru⟩ := rv.get hx
    rw [e] at hu
    cases hu
    exact ru
  have hlt : a < s.heap.objs.size := by obtain ⟨_, e, _⟩ := hl; exact Heap.lt_size e
  have hsz : 0 < its.toArray.size := by rw [List.size_toArray]; omega
  refine call_min_walk (wpAny_pyIter_list hl ?_)
  refine ⟨_, _, _, _, _, _, _, rfl, Walks.list (A := X.A.in1) (I.ok.hd hc) _ a (Nat.ne_of_lt hlt) its.toArray, ⟨⟨_, Heap.get?_push_size _ rfl, rfl, rfl⟩, hl.push _⟩, fun b hb => ?_, hsz, strs_lt (fun i => xs.getD i Str.empty) hval, fun v h' tk hP hk => ?_⟩
  · show b < (s.heap.push _).objs.size
    rw [Heap.size_push]
    rcases List.mem_cons.mp hb with e | hb
    · rw [e]
      exact Nat.lt_succ_self _
    · rw [List.mem_singleton.mp hb]
      exact Nat.lt_succ_of_lt hlt
  · obtain ⟨t, rfl⟩ := hval _ v hP
    have b2 := argBest_str (fun i => (xs.getD i Str.empty).cps.toList) (its.toArray.size - 1)
    have b1 := argBest_le (fun i j => decide ((xs.getD i Str.empty).cps.toList < (xs.getD j Str.empty).cps.toList)) (its.toArray.size - 1)
    rw [List.size_toArray] at b1 b2 hsz ⊢
    refine ⟨.str _, H, I.kept (t' := tk) fun b u e => hk b u (fun hmem => ?_) (Heap.get?_push_of_some _ e), ⟨t, rfl⟩, q _ ?_ fun y hy => ?_⟩
    · have e1 : b = s.heap.objs.size := by simpa using hmem
      have e2 := Heap.lt_size e
      rw [e1] at e2
      exact absurd e2 (Nat.lt_irrefl _)
    · rw [List.getD_eq_getElem?_getD, List.getElem?_eq_getElem (show _ < xs.length by omega)]
      exact List.getElem_mem _
    · obtain ⟨i, hi, e⟩ := List.mem_iff_getElem.mp hy
      have e2 : xs.getD i Str.empty = y := by rw [List.getD_eq_getElem?_getD, List.getElem?_eq_getElem hi, ← e] <;> rfl
      have := b2 i (by omega)
      rw [e2] at this
      exact this
/-! ### zip(z, t), z a text and t a tuple -/
def ItzS (K : PySem.W.Frag) (x : Str) (b : Addr) : It :=
  ⟨fun i H => ∃ (ys : List V) (c : Nat) (y : V), SqT K H b ys ∧ x.cps[i]? = some c ∧ ys[i]? = some y,
    fun i H v H' => ∃ T c y, v = .ref T ∧ H T = none ∧ H' = upd H T (.tup [.str ⟨#[c]⟩, y]) ∧ x.cps[i]? = some c ∧ ∀ ys, SqT K H b ys → ys[i]? = some y,
    fun i H => ∃ ys : List V, SqT K H b ys ∧ i ≤ x.cps.size ∧ i ≤ ys.length ∧ (i = x.cps.size ∨ i = ys.length)⟩
structure ZA (z TI TO i1 i2 b : Addr) : Prop where
  a1 : TI ≠ z
  a2 : TO ≠ z
  a3 : TI ≠ TO
  a4 : TI ≠ i1
  a5 : i1 ≠ z
  a6 : i1 ≠ TO
  a7 : TI ≠ i2
  a8 : i2 ≠ z
  a9 : i2 ≠ TO
  b1 : i1 ≠ i2
  b2 : b ≠ z
  b3 : b ≠ TO
  b4 : b ≠ i1
  b5 : b ≠ i2
theorem za_of (n b : Nat) (h : b < n) : ZA (n + 4) (n + 2) (n + 3) n (n + 1) b :=
  ⟨(show (n + 2 : Nat) ≠ n + 4 by omega), (show (n + 3 : Nat) ≠ n + 4 by omega), (show (n + 2 : Nat) ≠ n + 3 by omega), (show (n + 2 : Nat) ≠ n by omega), (show (n : Nat) ≠ n + 4 by omega), (show (n : Nat) ≠ n + 3 by omega), (show (n + 2 : Nat) ≠ n + 1 by omega),
    (show (n + 1 : Nat) ≠ n + 4 by omega), (show (n + 1 : Nat) ≠ n + 3 by omega), (show (n : Nat) ≠ n + 1 by omega), (show (b : Nat) ≠ n + 4 by omega), (show (b : Nat) ≠ n + 3 by omega), (show (b : Nat) ≠ n by omega), (show (b : Nat) ≠ n + 1 by omega)⟩
theorem ZA.sep {z TI TO i1 i2 b : Addr} (D : ZA z TI TO i1 i2 b) : ZipSep2 z TI TO i1 i2 [i1] [i2, b] :=
  ⟨D.a1, D.a2, D.a3, D.a4, by simp, by simpa using D.a5.symm, by simpa using D.a6.symm, D.a7, by simp, by simpa using ⟨D.a8.symm, D.b2.symm⟩, by simpa using ⟨D.a9.symm, D.b3.symm⟩, by simpa using ⟨D.b1, D.b4.symm⟩, by simpa using D.b1.symm⟩
theorem turn_zipST {P : Program} {w : World} {K : PySem.W.Frag} {elts : List Expr} {kk : Nat} {tpos : Pos} {x : Str} {t : Tok} {b z TI TO i1 i2 : Addr} (D : ZA z TI TO i1 i2 b) :
    Turn P w K (.Tuple elts kk tpos) (ItzS K x b) [z, TI, TO, i1, i2] z (fun i h => IsZip h z TI TO .none ∧ IsTupOf2 h TI (.ref i1) (.ref i2) ∧ (∃ x y, IsTupOf2 h TO x y) ∧ h.IsStrIter i1 (strIterType x) x t i ∧ h.IsTupleIter i2 b i) where
  mem := by simp
  obj := fun i h st c hc => by
    obtain ⟨hz, hTI, ⟨x, y, hTO⟩, ⟨o1, e1, _, d1⟩, ⟨o2, e2, _, d2⟩⟩ := st
    have e' : c = z ∨ c = TI ∨ c = TO ∨ c = i1 ∨ c = i2 := by simpa using hc
    rcases e' with q | q | q | q | q
    · rw [q]; exact ⟨_, hz, fun v q => nomatch q⟩
    · rw [q]; exact ⟨_, hTI, fun v q => nomatch q⟩
    · rw [q]; exact ⟨_, hTO, fun v q => nomatch q⟩
    · rw [q]; exact ⟨o1, e1, fun v q => by rw [d1] at q; cases q⟩
    · rw [q]; exact ⟨o2, e2, fun v q => by rw [d2] at q; cases q⟩
  keep := fun i h h' st k => by
    obtain ⟨hz, hTI, ⟨x, y, hTO⟩, ⟨o1, e1, r1⟩, h2⟩ := st
    exact ⟨k z (by simp) _ hz, k TI (by simp) _ hTI, ⟨x, y, k TO (by simp) _ hTO⟩, ⟨o1, k i1 (by simp) o1 e1, r1⟩, h2.at fun o q => k i2 (by simp) o q⟩
  item := by
    intro X hP hw hK hc i pins s σ H E I hf st hg
    subst hP hw hK
    obtain ⟨hz, hTI, ⟨x0, y0, hTO⟩, h1, h2⟩ := st
    obtain ⟨ys, c, y, hqy, hcx, hy⟩ := hg
    obtain ⟨its2, rv2, p2, _⟩ := I.tuple hqy
    obtain ⟨u2, hu2, ru2⟩ := rv2.get hy
    have hzl : z < s.heap.objs.size := Heap.lt_size hz
    have hh : X.A.in1.handled = none := I.ok.hd hc
    have l1 : i < x.cps.size := (Array.getElem?_eq_some_iff.mp hcx).1
    have l2 : i < its2.toArray.size := by rw [List.size_toArray]; exact (List.getElem?_eq_some_iff.mp hu2).1
    have pT : s.heap.IsTuple b its2.toArray := p2
    refine wpAny_pyNext_zipD2_item D.sep (Draws.text hh i1 x t) (Draws.tuple hh i2 b D.b5 its2.toArray) hz hTI hTO h1 ⟨h2, pT⟩ l1 l2 fun x1 x2 h' tk y1 y2 z' TO' h1' h2' hT hsz hk => ?_
    obtain ⟨c', u1, hc', rfl⟩ := y1
    rw [hcx] at hc'
    cases hc'
    have e2 : x2 = u2 := by
      have : its2.toArray[i]? = some x2 := y2
      rw [List.getElem?_toArray, hu2] at this
      exact (Option.some.inj this).symm
    subst e2
    refine ⟨_, rfl, wpAny_letOwnedTupleGo_zip (s := { s with heap := h', toks := tk }) z' fun h'' z'' sb => ?_⟩
    have hT2 : h''.get? s.heap.objs.size = some { cls := .type "tuple", data := .seq #[.str ⟨#[c]⟩ u1, x2] } := (sb.2 _ (Nat.ne_of_gt hzl)).trans hT
    have new : ObjOk X.prog X.w (upd H s.heap.objs.size (.tup [.str ⟨#[c]⟩, y])) h'' s.heap.objs.size (.tup [.str ⟨#[c]⟩, y]) :=
      ⟨by show 2 ≤ sizeLine; decide, [.str ⟨#[c]⟩ u1, x2], .cons ⟨u1, rfl⟩ (.cons ru2 .nil), ⟨_, hT2, rfl, _, rfl⟩⟩
    have I1 : Inv X pins σ (upd H s.heap.objs.size (.tup [.str ⟨#[c]⟩, y])) { s with heap := h'', toks := tk } :=
      I.turnedNew (t' := tk) (ch := [z, TI, TO, i1, i2]) (fun c o hb q => (sb.2 c (fun q' => hb (by simp [q']))).trans (hk c o (fun q' => hb (by simp [q'])) (fun q' => hb (by simp [q'])) (fun q' => hb (by simp [q'])) (fun q' => hb (by simp [q'])) q)) hf (Nat.le_refl _) new
    refine ⟨.ref s.heap.objs.size, _, I1, rfl, ⟨_, c, y, rfl, I.hok.fresh (Nat.le_refl _), rfl, hcx, fun l hl => by rw [I.tuple_inj hl hqy]; exact hy⟩, ⟨z'', ?_, ⟨.str ⟨#[c]⟩ u1, x2, ?_⟩, ?_, ?_⟩, fun c hcm => ?_⟩
    · exact (sb.2 _ D.a1).trans (hk _ _ D.a1 D.a3 D.a4 D.a7 hTI)
    · exact (sb.2 _ D.a2).trans TO'
    · obtain ⟨o, ho, r⟩ := h1'
      exact ⟨o, (sb.2 _ D.a5).trans ho, r⟩
    · exact h2'.1.at fun o q => (sb.2 _ D.a8).trans q
    · have hlt : c < s.heap.objs.size := by
        have e' : c = z ∨ c = TI ∨ c = TO ∨ c = i1 ∨ c = i2 := by simpa using hcm
        rcases e' with q | q | q | q | q
        · rw [q]; exact hzl
        · rw [q]; exact Heap.lt_size hTI
        · rw [q]; exact Heap.lt_size hTO
        · rw [q]; obtain ⟨_, e1, _⟩ := h1; exact Heap.lt_size e1
        · rw [q]; obtain ⟨_, e2, _⟩ := h2; exact Heap.lt_size e2
      rw [upd_ne (Nat.ne_of_lt hlt)]
      exact (hf c hcm).1
  done := by
    intro X hP hw hK hc i pins s σ H E I hf st hg
    subst hP hw hK
    obtain ⟨hz, hTI, ⟨x0, y0, hTO⟩, h1, h2⟩ := st
    obtain ⟨ys, hqy, m1, m2, hend⟩ := hg
    obtain ⟨its2, rv2, p2, _⟩ := I.tuple hqy
    have l2 := rv2.length
    have hh : X.A.in1.handled = none := I.ok.hd hc
    have pT : s.heap.IsTuple b its2.toArray := p2
    exact wpAny_pyNext_zipD2_end D.sep (Draws.text hh i1 x t) (Draws.tuple hh i2 b D.b5 its2.toArray) hz hTI hTO h1 ⟨h2, pT⟩ m1 (by rw [List.size_toArray]; omega) (by rcases hend with e | e; exact .inl e; exact .inr (by rw [e, List.size_toArray]; exact l2)) fun h' tk hk =>
      ⟨rfl, I.turnedL (t' := tk) (ch := [z, TI, TO, i1, i2]) (fun c o hb q => hk c o (fun q' => hb (by simp [q'])) (fun q' => hb (by simp [q'])) (fun q' => hb (by simp [q'])) (fun q' => hb (by simp [q'])) q) hf⟩
  self := fun A i s Q E st h => wpAny_pyIter_zip st.1 h
def iZipST (K : PySem.W.Frag) (ta : TA) : TI := fun σ H R => ta σ H fun vs H1 => ∃ z b ys, vs = [.str z, .ref b] ∧ SqT K H1 b ys ∧ R (ItzS K z b) H1
theorem pi_zipST {X : Cx} {e e2 : Expr} {ta : TA} {p pos tpos : Pos} {elts : List Expr} {kk : Nat} (hg : Gl X "zip") (hm : X.mg "zip" = none) (ha : PA X [e, e2] ta)
    (hs : starEach [e, e2] X.env = (false, eval e X.env) :: starEach [e2] X.env := by rfl) (hpl : (backTo pos (starEach [e2] X.env)).any (·.1) = false := by rfl) :
    PI X (.Tuple elts kk tpos) (.Call (.Name "zip" p) [e, e2] [] pos) (iZipST X.K ta) := by
  refine ⟨fun pins s σ H R I h => ?_⟩
  refine Call_ (ld_blt I hg hm PyProof.Rows.boot_zip (PyProof.Rows.callWith_type1 (thn (ha.run pos pins s σ H _ I h) fun us s1 ⟨vs, H1, I1, r1, q1⟩ => ?_) hs hpl))
  obtain ⟨z, b, ys, ex, hqy, q⟩ := q1
  subst ex
  cases r1 with
  | cons r rr =>
    cases rr with
    | cons r' rr =>
      cases rr
      obtain ⟨t, rfl⟩ := r
      cases r'
      have fresh5 : ∀ c, c ∈ [s1.heap.objs.size + 4, s1.heap.objs.size + 2, s1.heap.objs.size + 3, s1.heap.objs.size, s1.heap.objs.size + 1] → FpOk X pins H1 c := fun c hcm => by
        have e' : c = s1.heap.objs.size + 4 ∨ c = s1.heap.objs.size + 2 ∨ c = s1.heap.objs.size + 3 ∨ c = s1.heap.objs.size ∨ c = s1.heap.objs.size + 1 := by simpa using hcm
        have hle : s1.heap.objs.size ≤ c := by
          rcases e' with z | z | z | z | z
          · rw [z]; exact Nat.le_add_right _ _
          · rw [z]; exact Nat.le_add_right _ _
          · rw [z]; exact Nat.le_add_right _ _
          · rw [z]; exact Nat.le_refl _
          · rw [z]; exact Nat.le_add_right _ _
        exact I1.fpOk hle (I1.hok.fresh hle)
      obtain ⟨its2, rv2, p2, _⟩ := I1.tuple hqy
      have pT : s1.heap.IsTuple b its2.toArray := p2
      have hb : b < s1.heap.objs.size := by obtain ⟨_, e, _⟩ := pT; exact Heap.lt_size e
      refine zip_begins2 (begins_text z t) (begins_tuple b its2.toArray) trivial pT fun h' hz hTI hTO h1 h2 hsz hk => wpAny_pyIter_zip hz ?_
      have I2 : Inv X pins σ H1 { s1 with heap := h' } := I1.kept (t' := s1.toks) hk
      have dd : ZA (s1.heap.objs.size + 4) (s1.heap.objs.size + 2) (s1.heap.objs.size + 3) s1.heap.objs.size (s1.heap.objs.size + 1) b := za_of _ _ hb
      exact ⟨s1.heap.objs.size + 4, [s1.heap.objs.size + 4, s1.heap.objs.size + 2, s1.heap.objs.size + 3, s1.heap.objs.size, s1.heap.objs.size + 1], _, _, H1, rfl, I2, turn_zipST (t := t) dd, ⟨hz, hTI, ⟨_, _, hTO⟩, ⟨_, h1, rfl, rfl⟩, ⟨_, h2, rfl, rfl⟩⟩, fresh5, q⟩
/-- a walk over zip of a text and a tuple of one length -/
theorem walk_zipST {K : PySem.W.Frag} {x : Str} {b : Addr} {ys : List V} (hl : ys.length = x.cps.size) :
    Walk (ItzS K x b) ys.length (fun H => SqT K H b ys) (fun i H v H' => ∃ T c y, v = .ref T ∧ H T = none ∧ H' = upd H T (.tup [.str ⟨#[c]⟩, y]) ∧ x.cps[i]? = some c ∧ ys[i]? = some y) where
  goes := fun i H hi h => by
    have h2 : i < x.cps.size := by omega
    exact ⟨ys, x.cps[i], ys[i], h, by simp [h2], by simp [hi]⟩
  stops := fun H h => ⟨ys, h, by omega, Nat.le_refl _, .inr rfl⟩
  yields := fun i H v H' hi h y => by
    obtain ⟨T, c, y, e, hT, e2, hc, hy⟩ := y
    exact ⟨T, c, y, e, hT, e2, hc, hy ys h⟩
end FK

/-! Own rule: text * int. -/
namespace FK
open PySem PySem.Spec PyProof.Rows L2
def repS (z : Str) (n : Nat) : Str := ⟨((List.replicate n z.cps.toList).flatten).toArray⟩
theorem rep_fold (n : Nat) (a acc : Array Nat) : ((List.replicate n a).foldl (· ++ ·) acc).toList = acc.toList ++ (List.replicate n a.toList).flatten := by
  induction n generalizing acc with
  | zero => simp
  | succ n ih =>
    rw [List.replicate_succ, List.foldl_cons, ih, List.replicate_succ, List.flatten_cons, Array.toList_append, List.append_assoc]
theorem repS_length (z : Str) (n : Nat) : (repS z n).length = z.length * n := by
  show ((List.replicate n z.cps.toList).flatten).toArray.size = _
  rw [List.size_toArray, List.length_flatten, List.map_replicate, List.sum_replicate_nat, Array.length_toList, Nat.mul_comm]
  rfl
def rRepS : V → V → Hp → VK → Prop := fun x y H Q => ∃ (z : Str) (n : Nat), x = .str z ∧ y = .int (n : Int) ∧ z.length * n ≤ sizeLine ∧ n < 2 ^ 62 ∧ Q (.str (repS z n)) H
theorem op_rep_str {X : Cx} : OpR X (binaryOp .Mult) rRepS := by
  intro pins s σ H x y v u Q I rx ry h
  obtain ⟨z, n, rfl, rfl, hz, hn, q⟩ := h
  obtain ⟨t, rfl⟩ := rx
  obtain ⟨t', rfl⟩ := ry
  have hsl : sizeLine = 16777216 := sizeLine_eq
  refine PySem.P.mul_str (by simp; omega) (fun h1 h2 => ?_) (fun h1 h2 => ?_) ?_
  · have hn0 : (0 : Int) < n := by omega
    have h3 : ((z.length : Nat) : Int) * (n : Int) ≤ 2 ^ 63 - 1 := by
      have : ((z.length * n : Nat) : Int) ≤ (sizeLine : Int) := by omega
      rw [Int.natCast_mul] at this
      omega
    have := Int.le_ediv_of_mul_le hn0 h3
    omega
  · rw [Int.toNat_natCast]
    exact decide_eq_false (fun h => absurd h (Nat.not_lt.mpr hz))
  · have done : ∀ tk : Nat, ∀ w : Str, w = repS z n → Q (.str w) H := fun _ w e => by rw [e]; exact q
    by_cases c1 : (n : Int) < 1
    · rw [if_pos c1]
      have e0 : n = 0 := by omega
      refine ⟨by decide, .str _, H, I.tok _, ⟨_, rfl⟩, ?_⟩
      have e : (Str.empty : Str) = repS z n := by rw [e0]; rfl
      rw [e]
      exact q
    · rw [if_neg c1]
      by_cases c2 : ((n : Int) == 1 || z.length == 0) = true
      · rw [if_pos c2]
        refine ⟨.str z, H, I, ⟨t, rfl⟩, ?_⟩
        have e : z = repS z n := by
          cases z with | mk a =>
          rw [Bool.or_eq_true] at c2
          rcases c2 with c2 | c2
          · have h1 : (n : Int) = 1 := eq_of_beq c2
            have : n = 1 := by omega
            subst this
            simp [repS]
          · have ha : a.size = 0 := eq_of_beq c2
            have ha2 : a = #[] := Array.eq_empty_of_size_eq_zero ha
            subst ha2
            simp [repS]
        rw [← e] at q
        exact q
      · rw [if_neg c2]
        have e : (⟨(List.replicate (n : Int).toNat z.cps).foldl (· ++ ·) #[]⟩ : Str) = repS z n := by
          have h1 := rep_fold n z.cps #[]
          rw [Int.toNat_natCast]
          unfold repS
          congr 1
          apply Array.toList_inj.mp
          rw [h1]
          simp
        rw [e]
        exact ⟨by rw [repS_length]; exact hz, .str _, H, I.tok _, ⟨_, rfl⟩, q⟩
end FK

/-! Own kit: calls of defs that may raise, where they do not. -/
namespace FK
open PySem PySem.Spec PyProof.Rows L2
theorem pass1 {X : Cx} : Passes (L2.CX X.prog X.w) X E0 := by
  intro pins σ H s e s' I h
  unfold L2.CX at h
  simp only [E0] at h
  first
  | exact h.elim
  | (obtain ⟨_, _, h⟩ := h; simp_all)
  | skip
theorem Has.imp {P : Program} {w : World} {K : PySem.W.Frag} {mg : Str → Option Value} {base : Heap} {CX : CXT} {k : Nat} {x : Str} {ps : List Str} {sp sp' : Sp} (h : Has P w K mg base CX k x ps sp) (hi : ∀ vs H Q E, sp' vs H Q E → sp vs H Q E) : Has P w K mg base CX k x ps sp' := by
  obtain ⟨f, fd, F, r⟩ := h
  exact ⟨f, fd, F.imp hi, r⟩
end FK

/-! Own kit: makings that may raise; dicts with texts as keys. -/
namespace FK
open PySem PySem.Spec PyProof.Rows L2
section
variable {P : Program} {w : World} {K : PySem.W.Frag} {mg : Str → Option Value} {base : Heap}
theorem IAt.okX {C : Addr} {q : Str} {st : Stmt} {N ps : List Str} {k : Nat} {sp : Sp} (D : IAt K C q st ps) (S : FnScope N ps (defScope st)) (len : ∀ vs H Q E, sp vs H Q E → vs.length = ps.length)
    (hbody : ∀ (f : Addr) (cdv : Value) (A : Around) (outer : List Env) (s : Shared) (H : Hp) (vs : List V) (Q : VK) (E : XK), Room k (A.deeper (envOfC q (defScope st) s.heap.objs.size f cdv)) → sp vs H Q E →
      ∃ t, PSs (cxOf (L2.CX P w) P w K mg base N q (defScope st) f cdv A outer s H E) (defBody st) t ∧ t { nx := fun _ H' => Q .non H', rt := Q } (start N vs) H) : IHas P w K mg base (L2.CX P w) (k + 1) C ps sp := by
  obtain ⟨f, fd, F, g, b⟩ := D
  exact ⟨f, fd, F.okX S len (hbody f), g, b⟩
end
end FK

/-! Own kit: an error that is caught is handed to a def without loops and raises. -/
namespace FK
open PySem PySem.Spec PyProof.Rows L2
/-- what such a def promises: a, cls and dd tell the error -/
abbrev SpE := Addr → Value → Option Addr → List V → Hp → VK → Prop
section
variable {P : Program} {w : World} {K : PySem.W.Frag} {mg : Str → Option Value} {base : Heap}
theorem run_defE {x q : Str} {pr : Arguments} {body : List Stmt} {sc : Scope} {N ps : List Str} {k : Nat} {f : Addr} {A : Around} {outer : List Env} {s : Shared} {H : Hp} {us : List Value} {vs : List V} {args : Args} {Q : VK} {kV doc pm cdv ct oc : Value} {an od : Option Addr} {osl : Array (Option Value)} {po : Addr × Obj}
    (lk : K.lookup f = some ⟨oc, od, .func (PySem.W.fnOf x q pr body sc .none kV doc pm an cdv ct), osl⟩) (hc : PySem.W.codeIn K cdv q = true)
    (S : FnScope N ps sc) (hr : L2H.RoomH (k + 1) A) (pk : L2H.PinOk outer H s po) (e0 : Env0 P w K mg base A outer s H) (hv : Vals vs us) (hl : vs.length = ps.length) (hb : BindsTo s (PySem.W.fnOf x q pr body sc .none kV doc pm an cdv ct) args (ps.zip us))
    {t : TS} (hp : PSs (L2H.cxH CX0 P w K mg base N q sc f cdv A outer s H E0 po) body t) (ht : t { nx := fun _ H' => Q .non H', rt := Q } (start N vs) H) :
    codeAny (model P w) A (.call (.ref f) args) (CR CX0 outer P w H s Q E0) s := by
  have up : ∀ {b : Addr} {o : Obj}, base.get? b = some o → s.heap.get? b = some o := fun {b o} e => (e0.bs b o e).1
  have inK : K.In s.heap := e0.mod.kin.keeps fun _ _ e => up e
  refine codeAny_call_function hr.depth (inK _ _ lk) rfl S.co S.gen rfl (PySem.W.codeRec_of inK hc) (hb _ _ _ _ ?_)
  refine wpAny_newFunctionEnv_cells S.kind (fun z hz => ?_) fun env he s1 C => ?_
  · rcases S.par z.1 (List.of_mem_zip (show (z.1, z.2) ∈ ps.zip us from hz)).1 with c | c
    · exact Or.inl c
    · exact Or.inr ⟨c, PySem.W.cellsFrom_some _ _ _ (Or.inl c)⟩
  · cases he
    have nl : s.heap.NoLimit := e0.mod.nolimit.keeps fun _ _ e => up e
    refine ⟨nl.keeps C.toInCall.keep, codeAny_func ?_⟩
    have I := L2H.inv_startH (CX := CX0) (qual := q) (f := f) (cd := cdv) (E := E0) S pk e0 hl hv C
    refine wpAny_mono (hp.run [] s1 (start N vs) H _ I ht) (fun fl s2 z => ?_) fun _ _ z => z
    cases fl with
    | ret u => obtain ⟨v, _, H2, J, rv, q⟩ := z; exact ⟨v, H2, J.os, J.bare, J.base, J.hok, rv, q⟩
    | next => obtain ⟨_, H2, J, q⟩ := z; exact ⟨.non, H2, J.os, J.bare, J.base, J.hok, rfl, q⟩
    | brk => exact False.elim (let ⟨_, _, _, q⟩ := z; q)
    | cont => exact False.elim (let ⟨_, _, _, q⟩ := z; q)
/-- the def of this name keeps the promise, called with the error that is handled -/
def EHas (P : Program) (w : World) (K : PySem.W.Frag) (mg : Str → Option Value) (base : Heap) (k : Nat) (x : Str) (ps : List Str) (sp : SpE) : Prop :=
  ∃ (f : Addr) (fd : FuncData), (∀ (A : Around) (outer : List Env) (s : Shared) (H : Hp) (args : Args) (us : List Value) (vs : List V) (Q : VK) (po : Addr × Obj) (cls : Value) (dd : Option Addr), L2H.RoomH k A → L2H.PinOk outer H s po → Zc cls dd po.2 → (∃ z, po.2.data = .fields z) →
    Env0 P w K mg base A outer s H → BindsTo s fd args (ps.zip us) → Vals vs us → vs.length = ps.length → sp po.1 cls dd vs H Q → codeAny (model P w) A (.call (.ref f) args) (CR CX0 outer P w H s Q E0) s) ∧
    mg x = some (.ref f) ∧ PySem.W.keepIn K (.ref f) = true ∧ Binds K fd ps []
theorem At.okE {x : Str} {st : Stmt} {N ps : List Str} {k : Nat} {sp : SpE} (D : At K mg x st ps) (S : FnScope N ps (defScope st))
    (hbody : ∀ (f : Addr) (cdv : Value) (A : Around) (outer : List Env) (s : Shared) (H : Hp) (vs : List V) (Q : VK) (a : Addr) (oe : Obj) (cls : Value) (dd : Option Addr), L2H.RoomH k (A.deeper (envOfC x (defScope st) s.heap.objs.size f cdv)) → Zc cls dd oe → (∃ z, oe.data = .fields z) → sp a cls dd vs H Q →
      ∃ t, PSs (L2H.cxH CX0 P w K mg base N x (defScope st) f cdv A outer s H E0 (a, oe)) (defBody st) t ∧ t { nx := fun _ H' => Q .non H', rt := Q } (start N vs) H) : EHas P w K mg base (k + 1) x ps sp := by
  obtain ⟨f, fd, F, g, b⟩ := D
  refine ⟨f, fd, fun A outer s H args us vs Q po cls dd hr pk hz hf e0 hb hv hl hs => ?_, g, F.kp, b⟩
  obtain ⟨oc, od, kV, doc, pm, an, cdv, ct, osl, rfl, lk, hc⟩ := F.ex
  obtain ⟨t, h1, h2⟩ := hbody f cdv A outer s H vs Q po.1 po.2 cls dd (hr.deeper _) hz hf hs
  exact run_defE lk hc S hr pk e0 hv hl hb h1 h2
end
section
variable {X : Cx} {k : Nat} {x : Str} {ps : List Str} {p pos : Pos} {e : Expr} {es : List Expr} {t : TA}
/-- f(e, ..) in the suite that holds the error a -/
theorem pe_hE {sp : SpE} {a : Addr} {oe : Obj} {cls : Value} {dd : Option Addr} {pn : List (Addr × Obj)} (hz : Zc cls dd oe) (hf : ∃ z, oe.data = .fields z) (h : EHas X.prog X.w X.K X.mg X.base k x ps sp) (hr : Room k X.A) (ha : PA (X.suite a ((a, oe) :: pn)) (e :: es) t) (hg : Gl X x := by rfl)
    (hdb : (x == ("__debug__" : Str)) = false := by decide) (he : starEach (e :: es) X.env = (false, eval e X.env) :: starEach es X.env := by rfl) (hpl : (backTo pos (starEach es X.env)).any (·.1) = false := by rfl) :
    PE (X.suite a ((a, oe) :: pn)) (.Call (.Name x p) (e :: es) [] pos) (fun σ H Q => t σ H fun vs H1 => vs.length = ps.length ∧ sp a cls dd vs H1 Q) := by
  obtain ⟨f, fd, F, gm, kp, bd⟩ := h
  constructor
  intro pins s σ H Q I hh
  apply wpAny_Call_Name_kw
  apply ld_glob I hg gm _ hdb
  refine PySem.W.callWith_K (h₀ := X.base) I.ok.mod.kin kp (thn (ha.run pos pins s σ H _ I hh) fun us s1 z => ?_) he hpl
  obtain ⟨vs, H1, J, rv, hl, q⟩ := z
  refine ⟨J.kIn, ?_⟩
  have P1 := J.pin (a, oe) (List.mem_append_left _ List.mem_cons_self)
  have pk : L2H.PinOk X.stack H1 s1 (a, oe) := by
    refine ⟨P1.1, P1.2.1, fun hm => ?_, P1.2.2.2.2⟩
    rcases List.mem_cons.mp (J.stkSub a hm) with z | z
    · exact P1.2.2.1 z
    · exact P1.2.2.2.1 z
  have lu : us.length = ps.length := by rw [← rv.length]; exact hl
  have bb := bd s1 us J.kIn (by rw [List.append_nil]; exact lu)
  rw [List.append_nil] at bb
  have run := F (X.suite a ((a, oe) :: pn)).A X.stack s1 H1 ⟨us, []⟩ us vs Q (a, oe) cls dd ⟨hr.dp, hr.un⟩ pk hz hf J.env0 bb rv hl q
  refine wpAny_call (codeAny_mono run fun r s2 z => ?_)
  match r, z with
  | .ok (.ret u), z => exact J.after z
  | .error _, z => exact False.elim z
  | .ok .next, z => exact False.elim z
  | .ok .brk, z => exact False.elim z
  | .ok .cont, z => exact False.elim z
/-- isinstance(e, c) of the error that every state bears -/
theorem call_isP {a : Addr} {oe : Obj} {cls : Value} {dd : Option Addr} (hz : Zc cls dd oe) (hf : ∃ z, oe.data = .fields z) (hp : (a, oe) ∈ X.pn) :
    CallR X (.builtin "isinstance") (fun xs H Q => ∃ D : Addr, cls = .ref D ∧ dd = none ∧ ExcC X.K D ∧ rIsE X.K D a xs H Q) := by
  rintro pins s σ H xs us Q I r ⟨D, rfl, rfl, C, c, cv, b, rfl, hcv, hk, q⟩
  obtain ⟨u, u2, rfl, r1, r2⟩ := vals2 r
  cases r1
  cases hcv _ r2
  have g := (I.pin (a, oe) (List.mem_append_left _ hp)).1
  obtain ⟨z, hzd⟩ := hf
  have J : PySem.W.InstAt s.heap a oe D none := by
    cases oe with
    | mk c1 d1 dt sl =>
      obtain ⟨h1, h2⟩ := hz
      simp only at h1 h2 hzd
      subst h1 h2 hzd
      exact ⟨g, rfl, rfl, trivial⟩
  have kx := PySem.W.handS_kitx_exc (x := a) (ox := oe) C.hg C.hk C.hs C.hd C.ha C.hn C.ht C.hm
  refine PySem.W.kia_one kx I.kIn J hk (fun z => nomatch z) fun tk => ?_
  exact ⟨.bl b, H, I.kept (t' := tk) fun _ _ z => z, rfl, q⟩
end
end FK

/-! Own kit: lists of texts compared. -/
namespace FK
open PySem PySem.Spec PyProof.Rows L2
theorem dpAll_strs {K : PySem.W.Frag} {H : Hp} : ∀ xs : List Str, DpAll K H (xs.map V.str) (xs.map PyData.str)
  | [] => .nil
  | x :: xs => .cons (.str x) (dpAll_strs xs)
theorem canLay_strs : ∀ xs : List Str, (∀ x ∈ xs, PyData.strOk x = true) → PyData.canLayAll0 (xs.map PyData.str) = true
  | [], _ => rfl
  | x :: xs, h => by
    simp only [List.map_cons, PyData.canLayAll0, PyData.canLay0, canLay_strs xs (fun y hy => h y (List.mem_cons_of_mem _ hy)), h x List.mem_cons_self, Bool.and_true]
theorem depth_strs : ∀ xs : List Str, PyData.depthAll (xs.map PyData.str) ≤ 2
  | [] => by simp only [List.map_nil, PyData.depthAll]; decide
  | x :: xs => by
    have := depth_strs xs
    simp only [List.map_cons, PyData.depthAll, PyData.depth]
    omega
theorem shaped_strs (xs : List Str) (h : ∀ x ∈ xs, PyData.strOk x = true) : SeqAt.shaped (.list (xs.map PyData.str)) = true := by
  unfold SeqAt.shaped
  rw [show PyData.canLay0 (.list (xs.map PyData.str)) = PyData.canLayAll0 (xs.map PyData.str) from rfl, canLay_strs xs h, Bool.true_and]
  refine decide_eq_true ?_
  have := depth_strs xs
  simp only [PyData.depth]
  omega
theorem eqv_strs : ∀ xs ys : List Str, PyData.eqvAll (xs.map PyData.str) (ys.map PyData.str) = decide (xs = ys)
  | [], [] => rfl
  | [], y :: ys => rfl
  | x :: xs, [] => rfl
  | x :: xs, y :: ys => by
    rw [List.map_cons, List.map_cons, PyData.eqvAll, eqv_strs xs ys, PyData.eqv]
    by_cases h : x = y
    · subst h
      simp
    · simp [h]
theorem eqD_strs {K : PySem.W.Frag} {H : Hp} {a b : Addr} {xs ys : List Str} {Q : VK} (ha : SqL K H a (xs.map V.str)) (hb : SqL K H b (ys.map V.str)) (hx : ∀ x ∈ xs, PyData.strOk x = true) (hy : ∀ x ∈ ys, PyData.strOk x = true) (q : Q (.bl (decide (xs = ys))) H) : rEqD K (.ref a) (.ref b) H Q :=
  ⟨_, _, .lst ha (dpAll_strs xs), .lst hb (dpAll_strs ys), shaped_strs xs hx, shaped_strs ys hy, by rw [PyData.eqv, eqv_strs]; exact q⟩
theorem neD_strs {K : PySem.W.Frag} {H : Hp} {a b : Addr} {xs ys : List Str} {Q : VK} (ha : SqL K H a (xs.map V.str)) (hb : SqL K H b (ys.map V.str)) (hx : ∀ x ∈ xs, PyData.strOk x = true) (hy : ∀ x ∈ ys, PyData.strOk x = true) (q : Q (.bl (!decide (xs = ys))) H) : rNeD K (.ref a) (.ref b) H Q :=
  ⟨_, _, .lst ha (dpAll_strs xs), .lst hb (dpAll_strs ys), shaped_strs xs hx, shaped_strs ys hy, by rw [PyData.eqv, eqv_strs]; exact q⟩
end FK

/-! Own kit: methods and makings that may raise, in a try's body. -/
namespace FK
open PySem PySem.Spec PyProof.Rows L2
section
variable {X : Cx} {k : Nat} {x m : Str} {C : Addr} {ps : List Str} {sp : Sp} {p pos apos : Pos} {o e : Expr} {es : List Expr} {t : TA} {ta : TE} {CX : CXT}
/-- o.m(e, ..); what it lets out is wished for at the slots -/
theorem pe_mS {E : L2.St → XK} {pl : Sem Bool} (he : PE X o ta) (c : Cls X.K C) (h : MHas X.prog X.w X.K X.mg X.base CX k C m ps sp) (hr : Room k X.A) (hx : ∀ σ, PassesAt CX X σ (E σ)) (ha : PA X (e :: es) t)
    (hst : starEach (e :: es) X.env = (false, eval e X.env) :: starEach es X.env := by rfl) (hpl : (backTo pos (starEach es X.env)).any (·.1) = false := by rfl)
    (ht : eval (.Call (.Attribute o m apos) (e :: es) [] pos) X.env = (do
      let ov ← eval o X.env
      standAt apos.atName
      let (f, first) ← holding [ov] (getMethod ov m pl)
      callWith pos f first (backTo pos (starEach (e :: es) X.env)) (backToKw pos (keywordEach [] X.env))) := by rfl) :
    PE X (.Call (.Attribute o m apos) (e :: es) [] pos) (L2H.tMethH C m sp E ta t) := by
  obtain ⟨f, fd, F, g, b⟩ := h
  constructor
  intro pins s σ H Q I hh
  apply PySem.W.methodCall_KW (pl := pl) _ ht
  refine thn (he.run pins s σ H _ I hh) fun u s1 z => ?_
  obtain ⟨x, H1, J, rx, a, dx, fs, rfl, ea, l, q⟩ := z
  obtain rfl : u = Value.ref a := rx
  apply getmeth_ok J ea c g l
  refine PySem.W.callWith_K (first := [.ref a]) (h₀ := X.base) J.ok.mod.kin g.kp (thn (ha.run pos pins s1 σ H1 _ J q) fun us s2 z => ?_) hst hpl
  obtain ⟨vs, H2, J2, rv, q2⟩ := z
  exact ⟨J2.kIn, run_fnS (us := .ref a :: us) (vs := .ref a :: vs) F hr b (hx σ) J2 (.cons rfl rv) q2⟩
/-- C(e, ..) in the same way -/
def tMakeS (C : Addr) (sp : Sp) (E : L2.St → XK) (t : TA) : TE := fun σ H Q => t σ H fun vs H1 => ∀ x dx, H1 x = none → H1 dx = none → dx ≠ x →
  sp (.ref x :: vs) (upd (upd H1 dx (.own x)) x (.ins C dx [])) (fun v H2 => v = .non ∧ Q (.ref x) H2) (E σ)
theorem pe_iS {E : L2.St → XK} (h : IHas X.prog X.w X.K X.mg X.base CX k C ps sp) (hr : Room (k + 1) X.A) (hm : X.mg x = some (.ref C)) (hx : ∀ σ, PassesAt CX X σ (E σ)) (ha : PA X (e :: es) t) (hg : Gl X x := by rfl)
    (hdb : (x == ("__debug__" : Str)) = false := by decide) (he : starEach (e :: es) X.env = (false, eval e X.env) :: starEach es X.env := by rfl) (hpl : (backTo pos (starEach es X.env)).any (·.1) = false := by rfl) :
    PE X (.Call (.Name x p) (e :: es) [] pos) (tMakeS C sp E t) := by
  obtain ⟨f, fd, F, M, b⟩ := h
  constructor
  intro pins s σ H Q I hh
  apply wpAny_Call_Name_kw
  apply ld_glob I hg hm _ hdb
  refine PySem.W.callWith_K (h₀ := X.base) I.ok.mod.kin M.kp (thn (ha.run pos pins s σ H _ I hh) fun us s1 z => ?_) he hpl
  obtain ⟨vs, H1, J, rv, q⟩ := z
  refine ⟨J.kIn, ?_⟩
  have hq := q (s1.heap.objs.size + 1) s1.heap.objs.size (J.hok.fresh (Nat.le_succ _)) (J.hok.fresh (Nat.le_refl _)) (Nat.ne_of_lt (Nat.lt_succ_self _))
  have J2 := Inv.made (C := C) J
  have r2 : Vals (V.ref (s1.heap.objs.size + 1) :: vs) (Value.ref (s1.heap.objs.size + 1) :: us) := .cons rfl rv
  have hl : (Value.ref (s1.heap.objs.size + 1) :: us).length = ps.length := by
    rw [← r2.length]
    exact F.len _ _ _ _ hq
  have bb := b _ (Value.ref (s1.heap.objs.size + 1) :: us) J2.kIn (by rw [List.append_nil]; exact hl)
  rw [List.append_nil] at bb
  have run := F.run _ X.stack _ _ ⟨Value.ref (s1.heap.objs.size + 1) :: us, []⟩ (Value.ref (s1.heap.objs.size + 1) :: us) _ _ (E σ) (hr.make C us []) (J2.env0.make C us []) bb r2 hq
  refine wpAny_call (make_map (f := f) J.kIn M.makes M.init (beq_iff_eq.mp M.fn) (codeAny_mono run fun r s2 z => ?_))
  match r, z with
  | .ok (.ret u), z =>
    obtain ⟨v, H', J3, rw', ev, q3⟩ := J2.after z
    subst ev
    exact ⟨rw', V.ref (s1.heap.objs.size + 1), H', J3, rfl, q3⟩
  | .error er, z => exact hx σ pins _ _ er s2 J2 z
  | .ok .next, z => exact False.elim z
  | .ok .brk, z => exact False.elim z
  | .ok .cont, z => exact False.elim z
end
theorem MHas.imp {P : Program} {w : World} {K : PySem.W.Frag} {mg : Str → Option Value} {base : Heap} {CX : CXT} {k : Nat} {C : Addr} {m : Str} {ps : List Str} {sp sp' : Sp} (h : MHas P w K mg base CX k C m ps sp) (hi : ∀ vs H Q E, sp' vs H Q E → sp vs H Q E) : MHas P w K mg base CX k C m ps sp' := by
  obtain ⟨f, fd, F, r⟩ := h
  exact ⟨f, fd, F.imp hi, r⟩
theorem IHas.imp {P : Program} {w : World} {K : PySem.W.Frag} {mg : Str → Option Value} {base : Heap} {CX : CXT} {k : Nat} {C : Addr} {ps : List Str} {sp sp' : Sp} (h : IHas P w K mg base CX k C ps sp) (hi : ∀ vs H Q E, sp' vs H Q E → sp vs H Q E) : IHas P w K mg base CX k C ps sp' := by
  obtain ⟨f, fd, F, r⟩ := h
  exact ⟨f, fd, F.imp hi, r⟩
end FK

/-! Own kit: sorted(xs) of texts, sorted(xs, key=len) of texts. -/
namespace FK
open PySem PySem.Spec PyProof.Rows L2
/-! ### sorted(xs), texts, any number -/
def rSortT (K : PySem.W.Frag) : List V → Hp → VK → Prop := fun vs H Q => ∃ (a : Addr) (xs : List Str), vs = [V.ref a] ∧ SqL K H a (xs.map V.str) ∧
  ∀ (ys : List Str) (p : Addr), ys.Perm xs → sortedS ys = true → H p = none → Q (.ref p) (upd H p (.lst (ys.map V.str)))
theorem cr_sortT {X : Cx} : CallR X (.builtin "sorted") (rSortT X.K) := by
  rintro pins s σ H vs us Q I r ⟨a, xs, rfl, hs, q⟩
  obtain ⟨its, rv, hl, hz⟩ := I.list hs
  obtain rfl := Vals.ref1 r
  refine sorted_strsAny hl.isList rv.strs (by rw [← rv.length]; exact hz) fun out ys h1 h2 h3 => ?_
  obtain ⟨ep, he⟩ := sortedAll_at s.heap its out
  have hy : (ys.map V.str).length ≤ sizeLine := by
    rw [List.length_map] at hz ⊢
    rw [h2.length_eq]
    exact hz
  refine ⟨.ref _, upd H (s.heap.objs.size + 1) (.lst (ys.map V.str)), ?_, rfl, q ys _ h2 h3 (I.hok.fresh (Nat.le_succ _))⟩
  exact I.laid (t' := s.toks) (fun _ _ => sortedAll_old) (Nat.le_succ _) ⟨hy, out.toList, ep, vals_of_strs h1, he⟩
/-! ### sorted(xs, key=len), texts -/
def noHeap : Heap := {}
theorem noHeap_get (b : Addr) : noHeap.get? b = none := rfl
/-- all objects but one -/
def allBut (h : Heap) (L : Addr) : List (Addr × Obj) := (List.range h.objs.size).filterMap fun b => if b = L then none else (h.get? b).map fun o => ((b : Addr), o)
theorem mem_allBut {h : Heap} {L : Addr} {p : Addr × Obj} : p ∈ allBut h L ↔ p.1 ≠ L ∧ h.get? p.1 = some p.2 := by
  unfold allBut
  rw [List.mem_filterMap]
  constructor
  · rintro ⟨b, _, hb⟩
    by_cases c : b = L
    · rw [if_pos c] at hb
      cases hb
    · rw [if_neg c] at hb
      cases e : h.get? b with
      | none => rw [e] at hb; cases hb
      | some o => rw [e] at hb; cases hb; exact ⟨c, e⟩
  · rintro ⟨h1, h2⟩
    exact ⟨p.1, List.mem_range.mpr (Heap.lt_size h2), by rw [if_neg h1, h2]; rfl⟩
theorem strs_nth {vs : List Value} {xs : List Str} (h : StrsAre vs xs) {i : Nat} {x : Str} (e : xs[i]? = some x) : ∃ t, vs[i]? = some (.str x t) := by
  induction h generalizing i with
  | nil => simp at e
  | cons y t r ih =>
    cases i with
    | zero => simp at e; subst e; exact ⟨t, rfl⟩
    | succ i => exact ih (by simpa using e)
theorem strs_len {vs : List Value} {xs : List Str} (h : StrsAre vs xs) : vs.length = xs.length := by
  induction h with
  | nil => rfl
  | cons y t r ih => simp [ih]
/-- the text of a value -/
def txtV : Value → Str
  | .str x _ => x
  | _ => Str.empty
theorem strs_txt {vs : List Value} {xs : List Str} (h : StrsAre vs xs) : vs.map txtV = xs := by
  induction h with
  | nil => rfl
  | cons y t r ih => simp [txtV, ih]
theorem strs_back : ∀ {vs : List Value}, (∀ v ∈ vs, ∃ x t, v = Value.str x t) → StrsAre vs (vs.map txtV)
  | [], _ => .nil
  | v :: vs, h => by
    obtain ⟨x, t, rfl⟩ := h v List.mem_cons_self
    exact .cons x t (strs_back fun u hu => h u (List.mem_cons_of_mem _ hu))
theorem strs_mem {vs : List Value} {xs : List Str} (h : StrsAre vs xs) : ∀ v ∈ vs, ∃ x t, v = Value.str x t := by
  induction h with
  | nil => exact fun v hv => nomatch hv
  | cons y t r ih =>
    intro v hv
    rcases List.mem_cons.mp hv with rfl | hv
    · exact ⟨y, t, rfl⟩
    · exact ih v hv
def lenZ (x : Str) : Int := (x.length : Int)
/-- what the sort by lengths gives -/
theorem zip_keys : ∀ {vs : List Value} {xs : List Str}, StrsAre vs xs → (xs.map lenZ).zip vs = vs.map fun v => (lenZ (txtV v), v) := fun {vs xs} h => by
  induction h with
  | nil => rfl
  | cons y t r ih => simp [txtV, ih]
theorem out_len {vs out : List Value} {xs : List Str} (hS : StrsAre vs xs) (h : KskOutSt false (xs.map lenZ) vs out) :
    StrsAre out (out.map txtV) ∧ (out.map txtV).Perm xs ∧ (out.map txtV).Pairwise (fun x y => x.length ≤ y.length) ∧ ∀ n : Nat, (out.map txtV).filter (fun x => x.length == n) = xs.filter (fun x => x.length == n) := by
  obtain ⟨ps, h1, rfl, h3, h4⟩ := h
  rw [zip_keys hS] at h1 h4
  have mem : ∀ p ∈ ps, p.1 = lenZ (txtV p.2) ∧ p.2 ∈ vs := fun p hp => by
    obtain ⟨v, hv, rfl⟩ := List.mem_map.mp (h1.mem_iff.mp hp)
    exact ⟨rfl, hv⟩
  have e1 : (ps.map Prod.snd).map txtV = ps.map fun p => txtV p.2 := by rw [List.map_map]; rfl
  have e2 : (vs.map fun v => ((lenZ (txtV v), v) : Int × Value)).map (fun p => txtV p.2) = xs := by
    rw [List.map_map, ← strs_txt hS]
    rfl
  refine ⟨strs_back fun v hv => ?_, ?_, ?_, fun n => ?_⟩
  · obtain ⟨p, hp, rfl⟩ := List.mem_map.mp hv
    exact strs_mem hS _ (mem p hp).2
  · rw [e1]
    have := h1.map fun p => txtV p.2
    rw [e2] at this
    exact this
  · rw [e1, List.pairwise_map]
    refine List.Pairwise.imp_of_mem ?_ h3
    intro p q hp hq hpq
    have hpq : p.1 ≤ q.1 := hpq
    rw [(mem p hp).1, (mem q hq).1] at hpq
    exact Int.ofNat_le.mp hpq
  · have h5 := congrArg (List.map fun p : Int × Value => txtV p.2) (h4 (n : Int))
    have f1 : ∀ l : List (Int × Value), (∀ p ∈ l, p.1 = lenZ (txtV p.2)) → (l.filter fun p => p.1 == (n : Int)).map (fun p => txtV p.2) = (l.map fun p => txtV p.2).filter fun x => x.length == n := fun l hl => by
      rw [List.filter_map]
      congr 1
      refine List.filter_congr fun p hp => ?_
      rw [hl p hp]
      show ((((txtV p.2).length : Nat) : Int) == (n : Int)) = ((txtV p.2).length == n)
      rw [Bool.eq_iff_iff, beq_iff_eq, beq_iff_eq]
      omega
    rw [f1 _ fun p hp => (mem p hp).1, f1 _ fun p hp => by
      obtain ⟨v, _, rfl⟩ := List.mem_map.mp hp
      rfl, e2, ← e1] at h5
    exact h5
def rSortLen (K : PySem.W.Frag) : List V → Hp → VK → Prop := fun vs H Q => ∃ (a : Addr) (xs : List Str), vs = [V.ref a] ∧ SqL K H a (xs.map V.str) ∧ (∀ x ∈ xs, x.length ≤ sizeLine) ∧
  ∀ (ys : List Str) (p : Addr), ys.Perm xs → ys.Pairwise (fun x y => x.length ≤ y.length) → (∀ n : Nat, ys.filter (fun x => x.length == n) = xs.filter (fun x => x.length == n)) → H p = none → Q (.ref p) (upd H p (.lst (ys.map V.str)))
theorem hok_at {P : Program} {w : World} {H : Hp} {h h' : Heap} {L D : Addr} {o : HO} (ok : HOk P w H h) (hL : H L = none) (hD : H D = none) (k : ∀ b u, b ≠ L → h.get? b = some u → h'.get? b = some u) (new : ObjOk P w (upd H D o) h' D o) : HOk P w (upd H D o) h' := by
  intro b u e
  by_cases c : b = D
  · subst c
    rw [upd_same] at e
    cases e
    exact new
  · rw [upd_ne c] at e
    have ne : ∀ b' u', H b' = some u' → b' ≠ D := fun b' u' q z => by rw [z, hD] at q; cases q
    refine (ok b u e).stay (fun b' u' hb q => k b' u' ?_ q) (fun b' q => by rw [upd_ne (ne _ _ q)]; exact q) (fun b' xs q => by rw [upd_ne (ne _ _ q)]; exact q)
    rintro rfl
    rcases hb with rfl | hb
    · rw [hL] at e; cases e
    · rw [hL] at hb; cases hb
theorem run_sortLen {X : Cx} {pins : List (Addr × Obj)} {s : Shared} {σ : L2.St} {H : Hp} {Q : VK} {vs : List V} {us : List Value} (I : Inv X pins σ H s) (r : Vals vs us) (h : rSortLen X.K vs H Q) :
    wpAny (model X.prog X.w) X.A (call (.builtin "sorted") us [(Str.ofString "key", .builtin "len")]) (EP X pins σ Q) X.xe s := by
  obtain ⟨a, xs, rfl, hs, hx, q⟩ := h
  obtain ⟨its, rv, hl, hz⟩ := I.list hs
  obtain rfl := Vals.ref1 r
  have hS := rv.strs
  have hlen := strs_len hS
  obtain ⟨m, hn, _⟩ := I.loc
  have F : Fr noHeap X.env.locals s.heap m := ⟨hn, fun b o e => (nomatch e), Nat.zero_le _⟩
  have N : News noHeap X.env.locals s.heap (allBut s.heap X.env.locals) := fun p hp => ⟨(mem_allBut.mp hp).2, (mem_allBut.mp hp).1, rfl⟩
  refine ksk_sortedSt (kz := xs.map lenZ) F N hl.isList (by rw [List.length_map, hlen]) (by rw [← rv.length]; exact hz) (ksk_s1 _ _) (fun _ => ksk_l1 _ _) (fun x => ksk_t4 "len" x) ?_ ?_
  · intro i v k hv hk h tk own F' N'
    rw [List.getElem?_map] at hk
    cases e : xs[i]? with
    | none => rw [e] at hk; cases hk
    | some x =>
      rw [e] at hk
      obtain rfl : lenZ x = k := Option.some.inj hk
      obtain ⟨t, ht⟩ := strs_nth hS e
      rw [hv] at ht
      obtain rfl : v = Value.str x t := Option.some.inj ht
      have hx2 := hx x (List.mem_of_getElem? e)
      have hsl : sizeLine = 16777216 := sizeLine_eq
      exact PySem.P.len_str (by omega) ⟨h, _, _, rfl, rfl, F', N'⟩
  · intro D h' tk out c F' N' hD ko
    obtain ⟨k1, k2, k3, k4⟩ := out_len hS ko
    have kD := N' _ List.mem_cons_self
    have keep : ∀ b u, b ≠ X.env.locals → s.heap.get? b = some u → h'.get? b = some u := fun b u hb e => (N' (b, u) (List.mem_cons_of_mem _ (mem_allBut.mpr ⟨hb, e⟩))).1
    have sD : s.heap.get? D = none := by
      cases e : s.heap.get? D with
      | none => rfl
      | some u => exact absurd (hD (D, u) (mem_allBut.mpr ⟨kD.2.1, e⟩)) (Nat.lt_irrefl _)
    have HD : H D = none := by
      cases e : H D with
      | none => rfl
      | some u =>
        obtain ⟨o, z⟩ := objOk_get (I.hok D u e)
        rw [sD] at z
        cases z
    have hy : ((out.toList.map txtV).map V.str).length ≤ sizeLine := by
      rw [List.length_map] at hz ⊢
      rw [k2.length_eq]
      exact hz
    have ok : HOk X.prog X.w (upd H D (.lst ((out.toList.map txtV).map V.str))) h' := hok_at I.hok I.free HD keep ⟨hy, out.toList, c, vals_of_strs k1, by rw [Array.toArray_toList]; exact kD.1⟩
    have neD : ∀ b u, H b = some u → b ≠ D := fun b u q z => by rw [z, HD] at q; cases q
    refine ⟨.ref D, upd H D (.lst ((out.toList.map txtV).map V.str)), ?_, rfl, q _ D k2 k3 k4 HD⟩
    refine I.step (ch := []) (fun b hb => absurd hb List.not_mem_nil) (fun b o h1 _ _ e _ => keep b o h1 e) (fun b o h1 _ _ e _ => ⟨o.slots, keep b o h1 e⟩) (fun b o _ e hb => ?_) (fun b o _ e => ?_)
      (fun b xs e => by rw [upd_ne (neD _ _ e)]; exact e) (fun b o u e => by rw [upd_ne (neD _ _ e)]; exact e) (fun b ps e => ⟨#[], by rw [upd_ne (neD _ _ e), e]; simp⟩) (fun m' hm' => ?_) ok I.bare
    · rw [upd_ne (fun z => by rw [z, sD] at e; cases e)]
      exact hb
    · by_cases c1 : b = X.env.locals
      · obtain ⟨o', es, ep, e2, _⟩ := F'.ns
        exact ⟨o', by rw [c1]; exact e2⟩
      · exact ⟨o, keep b o c1 e⟩
    · rw [hm'.eq_nsMap, ← hn.eq_nsMap]
      exact F'.ns
/-- sorted(e, key=len) -/
theorem pe_sortLen {X : Cx} {e : Expr} {t : TA} {p p2 kpos pos : Pos} (ha : PA X [e] t) (hg : Gl X "sorted") (hm : X.mg "sorted" = none) (hg2 : Gl X "len") (hm2 : X.mg "len" = none)
    (hs : backTo pos (starEach [e] X.env) = (false, eval e X.env) :: backTo pos (starEach [] X.env) := by rfl) (hpl : (backTo pos (starEach [e] X.env)).any (·.1) = false := by rfl)
    (hall : (backToKw pos (keywordEach [⟨some "key", .Name "len" p2, kpos⟩] X.env)).all (·.1.isSome) = true := by rfl) (hnone : (backToKw pos (keywordEach [⟨some "key", .Name "len" p2, kpos⟩] X.env)).any (·.1.isNone) = false := by rfl)
    (hks : (backToKw pos (keywordEach [⟨some "key", .Name "len" p2, kpos⟩] X.env)).filterMap (·.1) = [Str.ofString "key"] := by rfl) :
    PE X (.Call (.Name "sorted" p) [e] [⟨some "key", .Name "len" p2, kpos⟩] pos) (fun σ H Q => t σ H fun vs H1 => rSortLen X.K vs H1 Q) := by
  constructor
  intro pins s σ H Q I hh
  apply wpAny_Call_Name_kw
  refine ld_blt I hg hm (u := .builtin "sorted") (by decide +kernel) ?_ (by decide) (by decide)
  refine PyProof.Rows.callWith_kw (thn (ha.run pos pins s σ H (fun vs H1 => rSortLen X.K vs H1 Q) I hh) fun us s1 z => ?_) hs hpl hall hnone
  obtain ⟨vs, H1, J, rv, q⟩ := z
  rw [hks]
  show wpAny _ _ (evalAll [do let v ← eval (.Name "len" p2) X.env; standAt pos; pure v]) _ _ s1
  refine wpAny_evalAll_cons (wpAny_bind ?_)
  refine ld_blt J hg2 hm2 (u := .builtin "len") PySem.boot_len ?_ (by decide) (by decide)
  refine wpAny_bind (wpAny_standAt (wpAny_pure (wpAny_evalAll_nil ?_)))
  exact run_sortLen J rv q
end FK

/-! Own kit: sorted(xs) of pairs of an int and a text. -/
namespace FK
open PySem PySem.Spec PyProof.Rows L2 Srt
/-- the pair (x, y) stands there -/
def IsIS (h : Heap) (v : Value) (x : Int) (y : Str) : Prop := ∃ a o t u n, v = .ref a ∧ h.get? a = some o ∧ o.cls = .type "tuple" ∧ o.data = .seq #[.int x t, .str y u] n
theorem IsIS.keeps {h h' : Heap} {v : Value} {x : Int} {y : Str} (p : IsIS h v x y) (k : ∀ b o, h.get? b = some o → o.cls = .type "tuple" → h'.get? b = some o) : IsIS h' v x y := by
  obtain ⟨a, o, t, u, n, e, h1, h2, h3⟩ := p
  exact ⟨a, o, t, u, n, e, k _ _ h1 h2, h2, h3⟩
def lexS (p q : Int × Str) : Bool := if p.1 = q.1 then decide (p.2.cps.toList < q.2.cps.toList) else decide (p.1 < q.1)
theorem lexS_no {p q : Int × Str} : lexS p q = false ↔ (p.1 = q.1 ∧ ¬ p.2.cps.toList < q.2.cps.toList) ∨ (p.1 ≠ q.1 ∧ ¬ p.1 < q.1) := by
  unfold lexS
  by_cases c : p.1 = q.1
  · rw [if_pos c]
    simp [c]
  · rw [if_neg c]
    simp [c]
theorem lexS_yes {p q : Int × Str} : lexS p q = true ↔ (p.1 = q.1 ∧ p.2.cps.toList < q.2.cps.toList) ∨ p.1 < q.1 := by
  unfold lexS
  by_cases c : p.1 = q.1
  · rw [if_pos c]
    simp [c]
  · rw [if_neg c]
    simp [c]
theorem swoS {α : Type} (k : α → Int × Str) : SrtO.Swo fun v u => lexS (k v) (k u) := by
  refine ⟨fun x y h => ?_, fun x y z h1 h2 => ?_⟩
  · rcases lexS_yes.mp h with ⟨a, b⟩ | a
    · exact lexS_no.mpr (.inl ⟨a.symm, fun c => List.lt_irrefl _ (List.lt_trans b c)⟩)
    · exact lexS_no.mpr (.inr ⟨by omega, by omega⟩)
  · rcases lexS_no.mp h1 with ⟨a, b⟩ | ⟨a, b⟩ <;> rcases lexS_no.mp h2 with ⟨c, d⟩ | ⟨c, d⟩
    · exact lexS_no.mpr (.inl ⟨by omega, by first | exact List.not_lt.mpr (List.le_trans (List.not_lt.mp d) (List.not_lt.mp b)) | exact List.not_lt.mpr (List.le_trans (List.not_lt.mp b) (List.not_lt.mp d))⟩)
    · exact lexS_no.mpr (.inr ⟨by omega, by omega⟩)
    · exact lexS_no.mpr (.inr ⟨by omega, by omega⟩)
    · exact lexS_no.mpr (.inr ⟨by omega, by omega⟩)
section
variable {prog : Program} {w : World} {A : Around} {E : Value → Shared → Prop} {s : Shared}
theorem cmpS {vs : List Value} {k : Value → Int × Str} (hp : ∀ v ∈ vs, IsIS s.heap v (k v).1 (k v).2) : SrtO.Cmp prog w A s (tuples' true) (fun p => p.1 ∈ vs) (SrtO.lt2 fun v u => lexS (k v) (k u)) := by
  intro p q hm hm'
  have h1 := hp _ hm
  have h2 := hp _ hm'
  show wpAny (model prog w) A (keyLt' (tuples' true) p.1 q.1) (fun r s' => s' = s ∧ r = lexS (k p.1) (k q.1)) (fun _ _ => False) s
  unfold lexS
  generalize (k p.1).1 = x1 at h1 ⊢
  generalize (k p.1).2 = y1 at h1 ⊢
  generalize (k q.1).1 = x2 at h2 ⊢
  generalize (k q.1).2 = y2 at h2 ⊢
  obtain ⟨a1, o1, t1, u1, n1, e1, g1, c1, d1⟩ := h1
  obtain ⟨a2, o2, t2, u2, n2, e2, g2, c2, d2⟩ := h2
  rw [e1, e2]
  apply PySem.W.kat_lt g1 d1 g2 d2
  show PySem.W.KatLex prog w A true (decide (2 < 2)) _ [(.int x1 t1, .int x2 t2), (.str y1 u1, .str y2 u2)] 0 s
  apply PySem.W.kat_cons
  refine SeqAt.EqAt.int_int x1 t1 x2 t2 prog w _ _ ?_
  refine PySem.W.kat_go (fun z => ?_) fun z => ?_
  · have ex : x1 = x2 := by simpa using z
    apply PySem.W.kat_yes
    apply PySem.W.kat_cons
    refine SeqAt.EqAt.str_str y1 u1 y2 u2 prog w _ _ ?_
    refine PySem.W.kat_go (fun z2 => ?_) fun z2 => ?_
    · have ey : y1 = y2 := by simpa using z2
      refine PySem.W.kat_yes (PySem.W.kat_nil ⟨rfl, ?_⟩)
      rw [if_pos ex, ey, decide_eq_false (List.lt_irrefl _)]
      rfl
    · refine PySem.W.kat_no (PySem.W.kat_one _ _ (PyProof.Rows.lt_str ⟨rfl, ?_⟩))
      rw [if_pos ex]
  · have ex : ¬ x1 = x2 := by simpa using z
    refine PySem.W.kat_no (oneLt_int ⟨rfl, ?_⟩)
    rw [if_neg ex]
theorem firstsS {h : Heap} : ∀ {vs : List Value}, (∀ v ∈ vs, ∃ x y, IsIS h v x y) → ∃ fs : List Value, PySem.W.KatTups h vs fs ∧ fs.length = vs.length ∧ ∀ f ∈ fs, ∃ x t, f = Value.int x t
  | [], _ => ⟨[], PySem.W.KatTups.nil, rfl, fun _ hm => by simp at hm⟩
  | v :: vs, hp => by
    obtain ⟨fs, i1, i2, i3⟩ := firstsS (vs := vs) fun u hu => hp u (List.mem_cons_of_mem _ hu)
    obtain ⟨x, y, a, o, t, u, n, rfl, ho, hc, hd⟩ := hp v List.mem_cons_self
    refine ⟨.int x t :: fs, PySem.W.KatTups.cons ho hc hd rfl i1, by simp [i2], fun f hf => ?_⟩
    rcases List.mem_cons.mp hf with rfl | hf
    · exact ⟨x, t, rfl⟩
    · exact i3 f hf
theorem sortableS {a : Addr} {vs : List Value} {k : Value → Int × Str} (h0 : 0 < vs.length) (hp : ∀ v ∈ vs, IsIS s.heap v (k v).1 (k v).2) (ha : ∀ o, s.heap.get? a = some o → o.cls ≠ .type "tuple") : SrtO.SortableO prog w A s a vs fun v u => lexS (k v) (k u) := by
  intro h1 kp
  have hp1 : ∀ v ∈ vs, IsIS h1 v (k v).1 (k v).2 := fun v hv => (hp v hv).keeps fun b o e c => kp b o (fun z => ha o (by rw [← z]; exact e) c) e
  obtain ⟨fs, i1, i2, i3⟩ := firstsS fun v hv => ⟨_, _, hp1 v hv⟩
  refine ⟨tuples' true, fun Q E hq => ?_, cmpS hp1⟩
  refine PySem.W.kat_kind (T := .type "int") i1 (by omega) (fun f hf => ?_) (by rfl) ?_
  · obtain ⟨x, t, rfl⟩ := i3 f hf
    exact PySem.W.Looks.now
  · rw [show (Value.type "int" != Value.type "tuple") = true by decide +kernel]
    exact hq
end
/-- sorted(xs), xs a list of pairs of an int and a text, told by k -/
def rSortIS (K : PySem.W.Frag) : List V → Hp → VK → Prop := fun vs H Q => ∃ (a : Addr) (xs : List V) (k : V → Int × Str), vs = [V.ref a] ∧ SqL K H a xs ∧ (∀ x ∈ xs, ∃ t, x = V.ref t ∧ H t = some (.tup [.int (k x).1, .str (k x).2])) ∧
  ∀ ys p, ys.Perm xs → ys.Pairwise (fun x y => lexS (k y) (k x) = false) → H p = none → Q (.ref p) (upd H p (.lst ys))
theorem cr_sortIS {X : Cx} : CallR X (.builtin "sorted") (rSortIS X.K) := by
  rintro pins s σ H vs us Q I r ⟨a, xs, k, rfl, hs, hx, q⟩
  obtain ⟨its, rv, hl, hz⟩ := I.list hs
  obtain rfl := Vals.ref1 r
  obtain ⟨e1, e2⟩ := refs_back rv fun x m => by
    obtain ⟨t, e, _⟩ := hx x m
    exact ⟨t, e⟩
  have hp : ∀ v ∈ its, IsIS s.heap v (k (backV v)).1 (k (backV v)).2 := fun v hv => by
    obtain ⟨t, rfl⟩ := e2 v hv
    have hm : V.ref t ∈ xs := by rw [e1]; exact List.mem_map.mpr ⟨_, hv, rfl⟩
    obtain ⟨t2, e, ht⟩ := hx _ hm
    cases e
    obtain ⟨_, jts, r2, o, ho, hc, n, hd⟩ := I.hok _ _ ht
    obtain ⟨w1, w2, rfl, ri, rj⟩ := vals2 r2
    obtain ⟨t1, rfl⟩ := ri
    obtain ⟨t2, rfl⟩ := rj
    exact ⟨t, o, t1, t2, n, rfl, ho, hc, hd⟩
  refine SrtO.sorted_ord (swoS fun u => k (backV u)) hl.isList (by rw [← rv.length]; exact hz) (fun h2 h1 b hb kk => ?_) fun out s1 s2 => ?_
  · refine sortableS (s := { s with heap := h1 }) (k := fun u => k (backV u)) (by omega) (fun v hv => (hp v hv).keeps fun b o e _ => (kk b o e).2) fun o e => ?_
    have e3 : some o = some (seqObj "list" its.toArray 0) := e.symm.trans hb
    cases e3
    exact fun c => absurd (Value.type.inj c) (by decide)
  · have h3 : ∀ u ∈ out, ∃ a, u = Value.ref a := fun u hu => e2 u (s2.perm.mem_iff.mp hu)
    obtain ⟨ep, he⟩ := sortedAll_at s.heap its out.toArray
    have pm : (out.map backV).Perm xs := by rw [e1]; exact s2.perm.map backV
    have hy : (out.map backV).length ≤ sizeLine := by rw [pm.length_eq]; exact hz
    refine ⟨.ref _, upd H (s.heap.objs.size + 1) (.lst (out.map backV)), I.laid (t' := s.toks) (fun _ _ => sortedAll_old) (Nat.le_succ _) ⟨hy, out, ep, vals_back h3, he⟩, rfl, q _ _ pm ?_ (I.hok.fresh (Nat.le_succ _))⟩
    exact List.pairwise_map.mpr s1
end FK

/-! Own kit: sum of a tuple of ints. -/
namespace FK
open PySem PySem.Spec PyProof.Rows L2
section
variable {prog : Program} {w : World} {A : Around} {E : Value → Shared → Prop} {s : Shared} {l : Addr} {xs : Array (Int × Tok)}
theorem sum_tupG {Q : Value → Shared → Prop} (hh : A.handled = none) (hl : s.heap.IsTuple l (intItems xs))
    (h : ∀ h' tk t', (∀ b o, s.heap.get? b = some o → h'.get? b = some o) → Q (.int (preSum (numAt xs) xs.size) t') { s with heap := h', toks := tk }) :
    wpAny (model prog w) A (call (.builtin "sum") [.ref l]) Q E s := by
  have lt : l < s.heap.objs.size := by
    obtain ⟨o, ho, _⟩ := hl
    exact Heap.lt_size ho
  refine call_sum_walkG (wpAny_pyIter_tuple hl ?_)
  refine ⟨_, _, _, _, _, _, numAt xs, rfl, Walks.tuple (A := A.in1) hh s.heap.objs.size l (Nat.ne_of_lt lt) (intItems xs), ⟨⟨_, Heap.get?_push_size _ rfl, rfl, rfl⟩, hl.push _⟩, fun c hc => ?_, (fun _ _ => intItems_at), fun h' tk t' hk => ?_⟩
  · show c < (s.heap.push _).objs.size
    rw [Heap.size_push]
    rcases List.mem_cons.mp hc with rfl | hc
    · exact Nat.lt_succ_self _
    · rw [List.mem_singleton.mp hc]
      exact Nat.lt_succ_of_lt lt
  · have := h h' tk t' fun b o e => hk b o (fun hm => by
      rw [List.mem_singleton.mp hm] at e
      exact Nat.lt_irrefl _ (Heap.lt_size e)) (Heap.get?_push_of_some _ e)
    simpa [intItems] using this
end
def rSumT (K : PySem.W.Frag) : List V → Hp → VK → Prop := fun vs H Q => ∃ (a : Addr) (ns : List Int), vs = [V.ref a] ∧ SqT K H a (ns.map V.int) ∧ Q (.int ns.sum) H
theorem cr_sumT {X : Cx} (hc : X.calm = true) : CallR X (.builtin "sum") (rSumT X.K) := by
  intro pins s σ H vs us Q I r h
  obtain ⟨a, ns, rfl, hs, q⟩ := h
  obtain ⟨its, rv, hl, _⟩ := I.tuple hs
  rw [Vals.ref1 r]
  have hi := rv.ints
  obtain ⟨xs, e⟩ := hi.allInts.items
  have hn : numsOf (intItems xs).toList = ns := by rw [← e]; exact hi.numsOf
  rw [nums_intItems] at hn
  rw [e] at hl
  refine sum_tupG (I.ok.hd hc) (show s.heap.IsTuple a _ from hl) fun h' tk t' hk => ⟨.int _, H, I.kept hk, ⟨_, rfl⟩, ?_⟩
  rw [preSum_eq, List.take_of_length_le (by simp), hn]
  exact q
end FK

/-! x in t, t a tuple of data of any depth. -/
namespace FK
open PySem PySem.Spec PyProof.Rows L2
theorem units65 {k : Nat} {A : Around} (r : Room k A) : A.units + 65 < cLine := by have := r.un; omega
section
variable {X : Cx}
def rInT (K : PySem.W.Frag) : R2 := fun x y H Q => ∃ d ds, Dp K H x d ∧ Dp K H y (.tuple ds) ∧ SeqAt.shaped d = true ∧ SeqAt.shaped (.list ds) = true ∧ Q (.bl (ds.any fun z => PyData.eqv z d)) H
def rNotInT (K : PySem.W.Frag) : R2 := fun x y H Q => ∃ d ds, Dp K H x d ∧ Dp K H y (.tuple ds) ∧ SeqAt.shaped d = true ∧ SeqAt.shaped (.list ds) = true ∧ Q (.bl (!ds.any fun z => PyData.eqv z d)) H
theorem op_inT (hu : X.A.units + 65 < cLine) : OpR X (compareOp .In) (rInT X.K) := by
  intro pins s σ H x y v u Q I rx ry h
  obtain ⟨d, ds, hd, he, sd, se, q⟩ := h
  obtain ⟨as, r1⟩ := Dp.reads I d x v hd rx
  obtain ⟨bs, r2⟩ := Dp.reads I (.tuple ds) y u he ry
  exact SeqAt.in_tuple_reads r2 r1 (SeqAt.canLay_of_shaped se) (SeqAt.canLay_of_shaped sd) (room_in_shaped sd hu) ⟨.bl _, H, I, rfl, q⟩
theorem op_notInT (hu : X.A.units + 65 < cLine) : OpR X (compareOp .NotIn) (rNotInT X.K) := by
  intro pins s σ H x y v u Q I rx ry h
  obtain ⟨d, ds, hd, he, sd, se, q⟩ := h
  obtain ⟨as, r1⟩ := Dp.reads I d x v hd rx
  obtain ⟨bs, r2⟩ := Dp.reads I (.tuple ds) y u he ry
  exact SeqAt.notIn_tuple_reads r2 r1 (SeqAt.canLay_of_shaped se) (SeqAt.canLay_of_shaped sd) (room_in_shaped sd hu) ⟨.bl _, H, I, rfl, q⟩
end
section
variable {X : Cx}
def rCntS (K : PySem.W.Frag) : V → List V → Hp → VK → Prop := fun x xs H Q => ∃ (p : Addr) (ys : List Str) (k : Str), x = .ref p ∧ xs = [.str k] ∧ SqL K H p (ys.map V.str) ∧ Q (.int (countIn (.str k) (ys.map PyData.str))) H
/-- l.count(x) of texts -/
theorem mt_lcountS : MtR X "list.count" (rCntS X.K) := by
  intro pins s σ H x xs v us Q I rx rxs h
  obtain ⟨p, ys, k, rfl, rfl, hs, q⟩ := h
  cases rx
  obtain ⟨u, rfl, ru⟩ := rxs.one
  obtain ⟨t, rfl⟩ := ru
  obtain ⟨its, rv, hl, hlen⟩ := I.list hs
  exact count_list_strs hl.isList rv.strs ⟨.int _, H, I.tok _, ⟨s.toks, rfl⟩, q⟩
end
section
variable {K : PySem.W.Frag} {tl : TE} {g : TG} {tt : L2.TT} {te : TE} {vs : List Nat} {σ : L2.St} {H H1 : Hp} {Q : VK} {wi : TI} {J : It}
/-- what a comprehension goes over, made in its head -/
theorem lc_lst (h : tl σ H fun x H1 => ∃ a, x = .ref a ∧ (∃ xs, SqL K H1 a xs) ∧ tLc (fun _ _ R => R (Itl K a) H1) g tt te vs σ H Q) : tLc (iList K tl) g tt te vs σ H Q := h
theorem lc_str (h : tl σ H fun x H1 => ∃ z, x = .str z ∧ tLc (fun _ _ R => R (Its z) H1) g tt te vs σ H Q) : tLc (iStr tl) g tt te vs σ H Q := h
theorem lc_rng1 {ta : TA} (h : ta σ H fun xs H1 => ∃ m, xs = [.int m] ∧ -2 ^ 62 ≤ m ∧ m < 2 ^ 62 ∧ tLc (fun _ _ R => R (Itr 0 m.toNat) H1) g tt te vs σ H Q) : tLc (iRng1 ta) g tt te vs σ H Q := h
theorem lc_at (hw : ∀ R : It → Hp → Prop, R J H1 → wi σ H R) (h : tLc (fun _ _ R => R J H1) g tt te vs σ H Q) : tLc wi g tt te vs σ H Q := hw _ h
theorem for_lst {tb : TS} {D : Ends} (h : tl σ H fun x H1 => ∃ a, x = .ref a ∧ (∃ xs, SqL K H1 a xs) ∧ tFor (fun _ _ R => R (Itl K a) H1) g tb D σ H) : tFor (iList K tl) g tb D σ H := h
theorem for_str {tb : TS} {D : Ends} (h : tl σ H fun x H1 => ∃ z, x = .str z ∧ tFor (fun _ _ R => R (Its z) H1) g tb D σ H) : tFor (iStr tl) g tb D σ H := h
/-- a dict comprehension over a walk -/
theorem dc_it {n : Nat} {G : Hp → Prop} {Y : Nat → Hp → V → Hp → Prop} (w : Walk J n G Y) {tk tv : TE} {D : Addr} {Qd : Hp → Prop} (Pv : Nat → Hp → Prop) (h0 : Pv 0 (upd H1 D (.dK []))) (hG : ∀ i H, i ≤ n → Pv i H → G H)
    (hs : ∀ i x H H', i < n → Pv i H → Y i H x H' → g x (wipe σ vs) H' fun σ2 H2 => wipe σ2 vs = wipe σ vs ∧ tt σ2 H2 fun b H3 =>
      if b = true then tk σ2 H3 fun y H4 => tv σ2 H4 fun z H5 => ∃ kvs k, y = kV k ∧ H5 D = some (.dK kvs) ∧ kvs.length < sizeLine ∧ Pv (i + 1) (upd H5 D (.dK (putK kvs k z))) else Pv (i + 1) H3) (hd : ∀ H, Pv n H → Qd H) :
    ∃ W : Nat → Nat → Hp → Prop, (∃ m, W 0 m (upd H1 D (.dK []))) ∧ ∀ i m H, W i m H →
      (J.stop i H ∧ Qd H) ∨ (J.go i H ∧ ∃ Nx : Hp → Prop, (∀ H', Nx H' → ∃ m', m' < m ∧ W (i + 1) m' H') ∧ ∀ x H', J.yld i H x H' → g x (wipe σ vs) H' fun σ2 H2 => wipe σ2 vs = wipe σ vs ∧ tt σ2 H2 fun b H3 =>
        if b = true then tk σ2 H3 fun y H4 => tv σ2 H4 fun z H5 => ∃ kvs k, y = kV k ∧ H5 D = some (.dK kvs) ∧ kvs.length < sizeLine ∧ Nx (upd H5 D (.dK (putK kvs k z))) else Nx H3) := by
  refine ⟨fun i m H => m = n - i ∧ i ≤ n ∧ Pv i H, ⟨n, by simp, Nat.zero_le _, h0⟩, ?_⟩
  rintro i m H ⟨rfl, hi, p⟩
  have q := hG i H hi p
  by_cases hlt : i < n
  · exact .inr ⟨w.goes i H hlt q, Pv (i + 1), fun H' p' => ⟨n - (i + 1), by omega, rfl, hlt, p'⟩, fun x H' y => hs i x H H' hlt p (w.yields i H x H' hlt q y)⟩
  · have e : i = n := by omega
    subst e
    exact .inl ⟨w.stops H q, hd H p⟩
/-- one more, if it is not there -/
def addS {α : Type} [DecidableEq α] (l : List α) (a : α) : List α := if a ∈ l then l else l ++ [a]
theorem mem_addS {α : Type} [DecidableEq α] {l : List α} {a b : α} : b ∈ addS l a ↔ b ∈ l ∨ b = a := by
  unfold addS
  split
  · exact ⟨.inl, fun h => h.elim id fun e => by rw [e]; assumption⟩
  · simp
theorem nd_addS {α : Type} [DecidableEq α] {l : List α} {a : α} (h : l.Nodup) : (addS l a).Nodup := by
  unfold addS
  split
  · exact h
  · refine List.nodup_append.mpr ⟨h, List.pairwise_singleton _ _, fun p hp q hq => ?_⟩
    rw [List.mem_singleton.mp hq]
    intro e
    rw [e] at hp
    contradiction
theorem len_addS {α : Type} [DecidableEq α] {l : List α} {a : α} : (addS l a).length ≤ l.length + 1 := by
  unfold addS
  split
  · omega
  · simp
theorem putK_addS {α κ : Type} [DecidableEq α] [DecidableEq κ] {f : α → κ} (hf : ∀ a b, f a = f b → a = b) (v : V) (l : List α) (a : α) : putK (l.map fun x => (f x, v)) (f a) v = (addS l a).map fun x => (f x, v) := by
  unfold putK addS
  have e : ((l.map fun x => (f x, v)).any fun kv => decide (kv.1 = f a)) = decide (a ∈ l) := by
    rw [Bool.eq_iff_iff, List.any_eq_true, decide_eq_true_iff]
    constructor
    · rintro ⟨x, hx, h⟩
      obtain ⟨y, hy, rfl⟩ := List.mem_map.mp hx
      rw [← hf _ _ (of_decide_eq_true h)]
      exact hy
    · intro h
      exact ⟨_, List.mem_map.mpr ⟨a, h, rfl⟩, decide_eq_true rfl⟩
  rw [e]
  by_cases c : a ∈ l
  · rw [if_pos (decide_eq_true c), if_pos c]
    refine (List.map_congr_left fun kv hkv => ?_).trans (List.map_id _)
    obtain ⟨y, hy, rfl⟩ := List.mem_map.mp hkv
    show (if f y = f a then (f y, v) else (f y, v)) = _
    split <;> rfl
  · rw [if_neg (by simp [c]), if_neg c, List.map_append]
    rfl
/-- the letters of a text as items -/
theorem walk_strY {z : Str} : Walk (Its z) (z.cps.toList.map fun c => V.str ⟨#[c]⟩).length (fun _ => True) (YAt (z.cps.toList.map fun c => V.str ⟨#[c]⟩)) := by
  have e : (z.cps.toList.map fun c => V.str ⟨#[c]⟩).length = z.cps.size := by simp
  rw [e]
  refine (walk_str (z := z)).mono (fun _ _ => trivial) ?_
  rintro i H x H' _ _ ⟨rfl, c, hc, rfl⟩
  exact ⟨rfl, by rw [List.getElem?_map, Array.getElem?_toList, hc]; rfl⟩
theorem walk_natY {n : Nat} : Walk (Itr 0 n) ((List.range n).map fun k => V.int (k : Nat)).length (fun _ => True) (YAt ((List.range n).map fun k => V.int (k : Nat))) := by
  have e : ((List.range n).map fun k => V.int (k : Nat)).length = n := by simp
  rw [e]
  refine (walk_range (lo := 0) (n := n)).mono (fun _ _ => trivial) ?_
  rintro i H x H' hi _ ⟨rfl, rfl⟩
  exact ⟨rfl, by rw [List.getElem?_map, List.getElem?_range hi]; simp⟩
end
end FK

/-! Own kit: name = {k: v for ..}, the name a local. -/
namespace FK
open PySem PySem.Spec PyProof.Rows L2
variable {X : Cx}
theorem ps_setDc {i : Nat} {y : Str} {py : Pos} {kx vx tg iter : Expr} {ifs : List Expr} {scope : Scope} {own : List (Str × Nat)} {pos spos : Pos} {wi : TI} {g : TG} {tt : TT} {tk tv : TE} (hc : X.calm = true) (hN : X.N.Nodup) (hy : X.N[i]? = some y) (hyl : X.env.scope.names.lookup y = some .local)
    (hsw : swapsWith (.DictComp kx vx [⟨tg, iter, ifs, 0⟩] scope pos) (some (.Name y py)) spos.line X.env = pure true) (hi : PI X tg iter wi) (ok : BlkOk X.N X.env.scope scope own)
    (hg : ∀ (s : Shared) (H : Hp) (C : Addr) (cl : List (Str × Addr)) (fp : List Addr), PG (X.blk s H scope (compEnvC scope cl C X.env) fp) tg g) (ht : ∀ (s : Shared) (H : Hp) (C : Addr) (cl : List (Str × Addr)) (fp : List Addr), PTs (X.blk s H scope (compEnvC scope cl C X.env) fp) ifs tt)
    (hk : ∀ (s : Shared) (H : Hp) (C : Addr) (cl : List (Str × Addr)) (fp : List Addr), PE (X.blk s H scope (compEnvC scope cl C X.env) fp) kx tk)
    (he : ∀ (s : Shared) (H : Hp) (C : Addr) (cl : List (Str × Addr)) (fp : List Addr), PE (X.blk s H scope (compEnvC scope cl C X.env) fp) vx tv) (hs : ∀ x, foldedSetIterable iter X.env x = pure x := by intro _; rfl) :
    PS X (.Assign [.Name y py] (.DictComp kx vx [⟨tg, iter, ifs, 0⟩] scope pos) spos) (tAsg (tDc wi g tt tk tv (own.map (·.2))) (gName i)) := by
  refine ⟨fun pins s σ H D I h => ?_⟩
  rw [exec_Assign_Name_used _ _ _ _ hsw]
  refine wpAny_bind (wpAny_standAt (wpAny_bind ?_))
  show wpAny _ X.A (do let _ ← comprehension (.DictComp kx vx [⟨tg, iter, ifs, 0⟩] scope pos) scope X.env (firstIterPos [⟨tg, iter, ifs, 0⟩] pos) newDict false (eval iter X.env) (some (assign (.Name y py) X.env))) _ _ s
  have h : tDc wi g tt tk tv (own.map (·.2)) σ H (fun x H1 => gName i x σ H1 D.nx) := h
  refine wpAny_bind (thn (dc_core (Qf := fun _ s' => SP X pins D .next s') hc hN I hi ok hg ht hk he hs h fun L C s' m H' I' q hn f => ?_) fun _ s' hq => wpAny_pure (wpAny_pure hq))
  show wpAny _ _ (assign (.Name y py) X.env (.ref L)) _ _ _
  refine wpAny_assign_Name (store_ok2 (v := V.ref L) I' hN hy (.inl hyl) rfl (fun s2 I2 ⟨a, sb, ha⟩ => ?_) (.inr hyl))
  obtain ⟨f0, f1, f2, f3, f4, f5⟩ := f
  have haC : C ≠ a := by
    rcases ha with z | z
    · rw [z]; exact f1
    · exact fun e => f4 y a z e.symm
  refine ⟨m, hn.sameBut sb haC, fun h3 sb3 => ?_⟩
  exact ⟨_, H', I2.turned (t' := s2.toks) (fun b o hb e => (sb3.2 b hb).trans e) f0 f1 f3 f4 f5, q⟩
theorem sw_trueD {kx vx : Expr} {gs : List Comprehension} {scope : Scope} {pos py : Pos} {y : Str} {l : Nat} {env : Env} (hk : env.scope.kind = .function) (hy : env.scope.names.lookup y = some .local) (hl : (py.line == pos.line) = true)
    (ha : (scope.names.any fun (n, k) => n == y && (k == .local || k == .cell)) = false) : swapsWith (.DictComp kx vx gs scope pos) (some (.Name y py)) l env = pure true := by
  have ky : env.kindOf y = some .local := hy
  have hb : env.blockKind = .function := by unfold Env.blockKind; rw [hk]; rfl
  unfold swapsWith
  simp only [hb, ky, ha, Expr.pos, hl]
  rfl
end FK

/-! Own kit: data that can be shown. -/
namespace FK
open PySem PySem.Spec PyProof.Rows L2
structure Fine (d : PyData) (n k : Nat) : Prop where
  l : d.leavesShort 13 = true
  w : d.weight ≤ n
  dp : d.depth ≤ k
  s : d.showable = true
  h : d.hasDict = false
  c : d.canLay0 = true
structure FineAll (ds : List PyData) (n k : Nat) : Prop where
  l : PyData.leavesShortAll 13 ds = true
  w : PyData.weightAll ds ≤ n
  dp : PyData.depthAll ds ≤ k
  s : PyData.showableAll ds = true
  h : PyData.hasDictAll ds = false
  c : PyData.canLayAll0 ds = true
theorem Fine.mono {d : PyData} {n k n' k' : Nat} (f : Fine d n k) (h1 : n ≤ n') (h2 : k ≤ k') : Fine d n' k' := ⟨f.l, Nat.le_trans f.w h1, Nat.le_trans f.dp h2, f.s, f.h, f.c⟩
theorem FineAll.mono {d : List PyData} {n k n' k' : Nat} (f : FineAll d n k) (h1 : n ≤ n') (h2 : k ≤ k') : FineAll d n' k' := ⟨f.l, Nat.le_trans f.w h1, Nat.le_trans f.dp h2, f.s, f.h, f.c⟩
theorem FineAll.nil : FineAll [] 0 0 := ⟨rfl, Nat.le_refl _, Nat.le_refl _, rfl, rfl, by simp [PyData.canLayAll0]⟩
theorem FineAll.cons {d : PyData} {ds : List PyData} {n m k : Nat} (f : Fine d n k) (g : FineAll ds m k) : FineAll (d :: ds) (n + 1 + m) k := by
  refine ⟨?_, ?_, ?_, ?_, ?_, ?_⟩
  · simp only [PyData.leavesShortAll, f.l, g.l, Bool.and_true]
  · simp only [PyData.weightAll]; have := f.w; have := g.w; omega
  · simp only [PyData.depthAll]; exact Nat.max_le.mpr ⟨f.dp, g.dp⟩
  · simp only [PyData.showableAll, f.s, g.s, Bool.and_true]
  · simp only [PyData.hasDictAll, f.h, g.h, Bool.or_false]
  · simp only [PyData.canLayAll0, f.c, g.c, Bool.and_true]
theorem FineAll.of {b k : Nat} : ∀ {ds : List PyData}, (∀ d ∈ ds, Fine d b k) → FineAll ds ((b + 1) * ds.length) k
  | [], _ => FineAll.nil.mono (Nat.zero_le _) (Nat.zero_le _)
  | d :: ds, h => by
    refine (FineAll.cons (h d List.mem_cons_self) (FineAll.of fun e he => h e (List.mem_cons_of_mem _ he))).mono ?_ (Nat.le_refl _)
    rw [List.length_cons, Nat.mul_succ]
    omega
theorem Fine.lst {ds : List PyData} {n k : Nat} (f : FineAll ds n k) : Fine (.list ds) n (k + 1) := ⟨f.l, f.w, Nat.add_le_add_right f.dp 1, f.s, f.h, by simpa only [PyData.canLay0] using f.c⟩
theorem Fine.tup {ds : List PyData} {n k : Nat} (f : FineAll ds n k) : Fine (.tuple ds) n (k + 1) := ⟨f.l, f.w, Nat.add_le_add_right f.dp 1, f.s, f.h, by simpa only [PyData.canLay0] using f.c⟩
theorem Fine.str {x : Str} (hc : ∀ c ∈ x.cps.toList, c < 1000) : Fine (.str x) x.length 0 := by
  refine ⟨?_, Nat.le_refl _, Nat.le_refl _, rfl, rfl, by
    simp only [PyData.canLay0, PyData.strOk]
    rw [← Array.all_toList, List.all_eq_true]
    exact fun c h => decide_eq_true (Nat.lt_of_lt_of_le (hc c h) (by decide))⟩
  show (x.cps.toList.all fun c => decide (c < 16 ^ 8)) = true
  rw [List.all_eq_true]
  exact fun c h => decide_eq_true (Nat.lt_of_lt_of_le (hc c h) (by decide))
theorem Fine.non : Fine .none 0 0 := ⟨rfl, Nat.le_refl _, Nat.le_refl _, rfl, rfl, by simp [PyData.canLay0]⟩
theorem Fine.bl (b : Bool) : Fine (.bool b) 0 0 := ⟨rfl, Nat.le_refl _, Nat.le_refl _, rfl, rfl, by simp [PyData.canLay0]⟩
theorem Fine.nat {i : Nat} (h : i < 10 ^ 13) : Fine (.int (i : Nat)) 44 0 := by
  have hl : (i : Int).natAbs.log2 ≤ 43 := by
    by_cases z : i = 0
    · rw [z]; decide
    · have := (Nat.log2_lt (n := i) (k := 44) z).2 (Nat.lt_of_lt_of_le h (by decide))
      show i.log2 ≤ 43
      omega
  have h2 : (i : Int) < 10 ^ 13 := by
    have : ((10 : Int) ^ 13) = ((10 ^ 13 : Nat) : Int) := by decide
    omega
  refine ⟨?_, ?_, Nat.le_refl _, ?_, rfl, by simp [PyData.canLay0]⟩
  · show decide ((Str.ofString (toString (i : Int))).length ≤ 13) = true
    exact decide_eq_true (toString_length_le (by omega) (by decide) h2)
  · show (if ((i : Int) == 0) = true then 0 else (i : Int).natAbs.log2 + 1) ≤ 44
    split <;> omega
  · show decide ((i : Int).natAbs.log2 < 1920) = true
    exact decide_eq_true (by omega)
theorem Fine.neg {i : Nat} (h : i < 1000) : Fine (.int (-(i : Nat))) 44 0 := by
  have : ∀ k : Fin 1000, (PyData.leavesShort 13 (.int (-(k.1 : Int))) && decide (PyData.weight (.int (-(k.1 : Int))) ≤ 44) && PyData.showable (.int (-(k.1 : Int)))) = true := by decide +kernel
  have h2 := this ⟨i, h⟩
  rw [Bool.and_eq_true, Bool.and_eq_true, decide_eq_true_iff] at h2
  exact ⟨h2.1.1, h2.1.2, Nat.le_refl _, h2.2, rfl, by simp [PyData.canLay0]⟩
theorem Fine.int {i : Int} (h : i.natAbs < 1000) : Fine (.int i) 44 0 := by
  rcases Int.le_total 0 i with c | c
  · obtain ⟨n, rfl⟩ := Int.eq_ofNat_of_zero_le c
    exact Fine.nat (Nat.lt_of_lt_of_le (show n < 1000 by omega) (by decide))
  · obtain ⟨n, rfl⟩ : ∃ n : Nat, i = -(n : Int) := ⟨i.natAbs, by omega⟩
    exact Fine.neg (by omega)
theorem Fine.intL {i : Int} (h : i.natAbs < 10 ^ 12) : Fine (.int i) 44 0 := by
  cases i with
  | ofNat n => exact Fine.nat (Nat.lt_of_lt_of_le h (by decide))
  | negSucc m =>
    have h : m + 1 < 10 ^ 12 := h
    have hl : (Int.negSucc m).natAbs.log2 ≤ 43 := by
      have := (Nat.log2_lt (n := m + 1) (k := 44) (by omega)).2 (Nat.lt_of_lt_of_le h (by decide))
      show (m + 1).log2 ≤ 43
      omega
    have h2 : ((m + 1 : Nat) : Int) < 10 ^ 12 := by
      have : ((10 : Int) ^ 12) = ((10 ^ 12 : Nat) : Int) := by decide
      omega
    refine ⟨?_, ?_, Nat.le_refl _, ?_, rfl, by simp [PyData.canLay0]⟩
    · show decide ((Str.ofString (toString (Int.negSucc m))).length ≤ 13) = true
      have e : toString (Int.negSucc m) = "-" ++ toString ((m + 1 : Nat) : Int) := rfl
      have e2 := toString_length_le (v := ((m + 1 : Nat) : Int)) (by omega) (by decide) h2
      rw [PyProof.Rows.ofString_length] at e2
      rw [decide_eq_true_iff, PyProof.Rows.ofString_length, e, String.toList_append, List.length_append]
      have e3 : "-".toList.length = 1 := by decide
      omega
    · show (if (Int.negSucc m == 0) = true then 0 else (Int.negSucc m).natAbs.log2 + 1) ≤ 44
      split <;> omega
    · show decide ((Int.negSucc m).natAbs.log2 < 1920) = true
      exact decide_eq_true (by omega)
theorem Fine.shaped {d : PyData} {n k : Nat} (f : Fine d n k) (hk : k ≤ 64) : SeqAt.shaped d = true := by
  show (d.canLay0 && decide (d.depth ≤ 64)) = true
  rw [f.c, decide_eq_true (Nat.le_trans f.dp hk)]
  rfl
theorem rd_repr {K : PySem.W.Frag} {H : Hp} {v : V} {d : PyData} {n k : Nat} {Q : VK} (hd : Dp K H v d) (f : Fine d n k) (hn : n ≤ 1000000) (hk : k < 40) (q : Q (.str d.shown) H) : rRepr K [v] H Q :=
  ⟨v, d, rfl, hd, f.s, f.h, Nat.lt_of_le_of_lt f.dp hk, PyData.shown_fits (B := 13) (by decide) (by decide) f.l (Nat.le_trans f.w (Nat.le_trans hn (by decide))), q⟩
end FK

/-! Own kit: several except clauses, some of them with a name. -/
namespace FK
open PySem PySem.Spec PyProof.Rows L2
abbrev Clause := Value × Option Nat × (Addr → Value → Option Addr → TS)
/-- what follows a suite whose name is gone -/
def Ends.gone (D : Ends) (i : Nat) : Ends := { nx := fun σ' H' => D.nx (σ'.set i none) H', rt := D.rt, bk := fun σ' H' => D.bk (σ'.set i none) H', ct := fun σ' H' => D.ct (σ'.set i none) H' }
def wManyN (K : PySem.W.Frag) (Wout : WX) (D : Ends) : List Clause → WX
  | [] => Wout
  | (c, none, ts) :: r => fun cls d σ H => ∃ b, PySem.W.exmOne K cls c = some b ∧ (b = true → ∀ a, H a = none → ts a cls d D σ H) ∧ (b = false → wManyN K Wout D r cls d σ H)
  | (c, some i, ts) :: r => fun cls d σ H => ∃ b, PySem.W.exmOne K cls c = some b ∧ (b = true → ∀ a, H a = none → ts a cls d (Ends.gone D i) (σ.set i (some (.ref a))) H) ∧ (b = false → wManyN K Wout D r cls d σ H)
inductive HdsN (X : Cx) : List ExceptHandler → List Clause → Prop
  | nil : HdsN X [] []
  | cons {x : Str} {c : Value} {ts : Addr → Value → Option Addr → TS} {b₀ : Stmt} {suite : List Stmt} {np pos' : Pos} {hds : List ExceptHandler} {l : List Clause} (hc : Names X x c)
      (hsu : ∀ (a : Addr) (oe : Obj) (cls : Value) (d : Option Addr) (pn : List (Addr × Obj)), Zc cls d oe → (∃ vs, oe.data = .fields vs) → PSs (X.suite a ((a, oe) :: pn)) (b₀ :: suite) (ts a cls d)) (r : HdsN X hds l) :
      HdsN X (.ExceptHandler (some (.Name x np)) none (b₀ :: suite) pos' :: hds) ((c, none, ts) :: l)
  | consAs {x n : Str} {i : Nat} {c : Value} {ts : Addr → Value → Option Addr → TS} {b₀ : Stmt} {suite : List Stmt} {np pos' : Pos} {hds : List ExceptHandler} {l : List Clause} (hN : X.N.Nodup) (hi : X.N[i]? = some n) (hln : X.env.kindOf n = some .local) (hc : Names X x c)
      (hsu : ∀ (a : Addr) (oe : Obj) (cls : Value) (d : Option Addr) (pn : List (Addr × Obj)), Zc cls d oe → (∃ vs, oe.data = .fields vs) → PSs (X.suite a ((a, oe) :: pn)) (b₀ :: suite) (ts a cls d)) (r : HdsN X hds l) :
      HdsN X (.ExceptHandler (some (.Name x np)) (some n) (b₀ :: suite) pos' :: hds) ((c, some i, ts) :: l)
section
variable {X : Cx} {body : List Stmt} {h₀ : ExceptHandler} {hds : List ExceptHandler} {l : List Clause} {pos : Pos} {tb : WX → TS} {Wout : WX}
theorem ps_try_manyN (hs : X.stack = X.env :: X.outer) (hf : X.env.frame = some X.env.locals) (tk : Takes X Wout)
    (hb : ∀ (W : WX) (pn : List (Addr × Obj)) (xe : Value → Shared → Prop), Takes (X.tr pn xe) W → PassesOwn (model X.prog X.w) X.A X.env xe → PSs (X.tr pn xe) body (tb W))
    (hh : HdsN X (h₀ :: hds) l) : PS X (.Try body (h₀ :: hds) [] [] pos) (fun D σ H => tb (wManyN X.K Wout D l) D σ H) := by
  refine ⟨fun pins s σ H D I h => ?_⟩
  have ok := I.ok
  have hfr : X.A.frames = some (X.env :: X.outer) := by rw [ok.frames, hs]
  refine wpAny_Try_except ?_
  refine wpAny_mono ((hb (wManyN X.K Wout D l) (X.pn ++ pins) (fun e s₁ => wpAny (model X.prog X.w) X.A (noteFrame e X.env) (fun _ s₂ => wpAny (model X.prog X.w) X.A (setFlight e none) (fun _ s₃ =>
    wpAny (model X.prog X.w) X.A (handleBy e X.env (h₀ :: hds)) (SP X pins D) X.xe s₃) X.xe s₂) X.xe s₁) (fun u s' xx => ?_) PassesOwn.looking).run [] s σ H D (I.toTry _) h) (fun f s1 hsp => ?_) (fun e s1 he => he)
  · -- the catch
    obtain ⟨a, B, sI, pins', σ', H', cls, d, rfl, J', nb, up, sky, na, os, ag, w⟩ := xx
    have J : Inv X pins σ' H' sI := J'.ofTry ok
    have sky' : Sky B (X.env :: X.outer) a (Zc cls d) X.env.locals s'.heap := by rw [← hs]; exact sky
    show wpAny (model X.prog X.w) X.A (noteFrame (.ref a) X.env) _ _ _
    refine Sky.land Zc.steady hfr hf sky' fun h3 fl3 up3 => ?_
    have J3 : Inv X pins σ' H' { s' with heap := h3 } := J.landed nb fl3.1 (up.trans up3) os ag
    obtain ⟨oe3, vs3, he3, hz3, hd3⟩ := fl3.there
    have notFr : ∀ {h : Heap} {o : Obj} {vs : Array Value}, h.FunFrames B (X.env :: X.outer) → h.get? a = some o → o.data = .fields vs → a ∉ frs (X.env :: X.outer) := fun {h o vs} ff e dd hm => by
      obtain ⟨_, o', e', hnf⟩ := ff.mem hm
      rw [e] at e'; cases e'
      exact hnf _ dd
    have nfr := notFr fl3.2.2.1 he3 hd3
    have nL : a ≠ X.env.locals := fun z => nfr (List.mem_filterMap.mpr ⟨X.env, List.mem_cons_self, by rw [hf, z]⟩)
    have nF : a ∉ X.fs := fun hm => by
      obtain ⟨e, he, q⟩ := List.mem_filterMap.mp hm
      exact nfr (List.mem_filterMap.mpr ⟨e, List.mem_cons_of_mem _ he, q⟩)
    have S3 := J3.suite he3 hd3 na nL nF
    have go : ∀ {hds' : List ExceptHandler} {l' : List Clause}, HdsN X hds' l' → wManyN X.K Wout D l' cls d σ' H' →
        wpAny (model X.prog X.w) X.A (handleBy (.ref a) X.env hds') (SP X pins D) X.xe { s' with heap := h3 } := by
      intro hds' l' hk
      induction hk with
      | nil =>
        intro w
        refine wpAny_handleBy_nil ?_
        obtain ⟨k1, k2, k3, oe, vs, T, oT, ts', he, hz, hd, h1, hr⟩ := id fl3
        unfold PySem.passOn
        refine wpAny_bind (wpAny_field he hd h1 ?_)
        rw [if_neg (show ¬ ((Value.ref T == Value.none) = true) from by simp)]
        have fin : wpAny (model X.prog X.w) X.A (setFlight (.ref a) X.env.frame) (fun _ s4 => wpAny (model X.prog X.w) X.A (throw (.ref a) : Sem Flow) (SP X pins D) X.xe s4) X.xe { s' with heap := h3 } := by
          rw [hf]
          refine HandSPX.setFlight_upZ fl3 fun h4 hh4 up4 => wpAny_throw (tk _ _ ?_)
          exact ⟨a, B, sI, pins, σ', H', cls, d, rfl, J, nb, (up.trans up3).trans up4, .inr (.inr (by rw [hs]; exact hh4)), na, os, ag, w⟩
        first
          | exact wpAny_bind (wpAny_pure (wpAny_bind fin))
          | exact wpAny_bind fin
      | @cons x c ts b₀ suite np pos' hds2 l2 hc hsu r ih =>
        intro w
        obtain ⟨b, hb1, hyes, hno⟩ := w
        refine wpAny_handleBy_cons (codeAny_handlers_test ?_) (by intro q; cases q)
        have LT : PySem.W.Looks (model X.prog X.w) h3 (typeOf (.ref a)) cls := fun A Q E s k q => wpAny_typeOf_ref (k _ _ he3) (by rw [hz3.1]; exact q)
        have LM := PySem.W.exm_one (M := model X.prog X.w) (J3.kIn) LT hb1
        have test : ∀ {Q : Value → Shared → Prop} {E : Value → Shared → Prop}, Q c { s' with heap := h3 } → wpAny (model X.prog X.w) (X.A.mark (some (.ref a))) (eval (.Name x np) X.env) Q E { s' with heap := h3 } := fun {Q E} q => by
          obtain ⟨hg, hdbg, hm | ⟨hm, hv, hnn⟩⟩ := hc
          · exact ld_glob (X := X.suite a ((a, oe3) :: (X.pn ++ pins))) S3 hg hm q hdbg
          · exact ld_blt (X := X.suite a ((a, oe3) :: (X.pn ++ pins))) S3 hg hm hv q hnn hdbg
        refine test (LM.here ?_)
        cases b with
        | true =>
          refine codeAny_handlers_suite ?_
          refine HandSPX.lands_againZ fl3 fun h4 fl4 up4 => ?_
          have J4 : Inv X pins σ' H' { s' with heap := h4 } := J.landed nb fl4.1 ((up.trans up3).trans up4) os ag
          obtain ⟨oe4, vs4, he4, hz4, hd4⟩ := fl4.there
          have S4 := J4.suite he4 hd4 na nL nF
          refine wpAny_mono ((hsu a oe4 cls d (X.pn ++ pins) hz4 ⟨_, hd4⟩).run [] _ _ H' _ S4 (hyes rfl a na)) (fun f s6 hsp => ?_) (fun _ _ z => False.elim z)
          cases f with
          | next =>
            obtain ⟨σ6, H6, S6, q6⟩ := hsp
            exact ⟨_, _, S6.unsuite ok, q6⟩
          | brk =>
            obtain ⟨σ6, H6, S6, q6⟩ := hsp
            exact ⟨_, _, S6.unsuite ok, q6⟩
          | cont =>
            obtain ⟨σ6, H6, S6, q6⟩ := hsp
            exact ⟨_, _, S6.unsuite ok, q6⟩
          | ret u =>
            obtain ⟨v6, σ6, H6, S6, r6, q6⟩ := hsp
            exact ⟨_, _, _, S6.unsuite ok, r6, q6⟩
        | false =>
          show wpAny _ X.A (handleBy (.ref a) X.env hds2) _ _ _
          exact ih (hno rfl)
      | @consAs x n i c ts b₀ suite np pos' hds2 l2 hN hi hln hc hsu r ih =>
        intro w
        obtain ⟨b, hb1, hyes, hno⟩ := w
        refine wpAny_handleBy_cons (codeAny_handlers_test ?_) (by intro q; cases q)
        have LT : PySem.W.Looks (model X.prog X.w) h3 (typeOf (.ref a)) cls := fun A Q E s k q => wpAny_typeOf_ref (k _ _ he3) (by rw [hz3.1]; exact q)
        have LM := PySem.W.exm_one (M := model X.prog X.w) (J3.kIn) LT hb1
        have test : ∀ {Q : Value → Shared → Prop} {E : Value → Shared → Prop}, Q c { s' with heap := h3 } → wpAny (model X.prog X.w) (X.A.mark (some (.ref a))) (eval (.Name x np) X.env) Q E { s' with heap := h3 } := fun {Q E} q => by
          obtain ⟨hg, hdbg, hm | ⟨hm, hv, hnn⟩⟩ := hc
          · exact ld_glob (X := X.suite a ((a, oe3) :: (X.pn ++ pins))) S3 hg hm q hdbg
          · exact ld_blt (X := X.suite a ((a, oe3) :: (X.pn ++ pins))) S3 hg hm hv q hnn hdbg
        refine test (LM.here ?_)
        cases b with
        | true =>
          refine codeAny_handlers_suite_as ?_
          refine HandSPX.lands_againZ fl3 fun h4 fl4 up4 => ?_
          have J4 : Inv X pins σ' H' { s' with heap := h4 } := J.landed nb fl4.1 ((up.trans up3).trans up4) os ag
          obtain ⟨oe4, vs4, he4, hz4, hd4⟩ := fl4.there
          have S4 := J4.suite he4 hd4 na nL nF
          have hloc : Loc X.env.scope n := .inl hln
          refine store_ok (X := X.suite a ((a, oe4) :: (X.pn ++ pins))) (v := .ref a) S4 hN hi hloc rfl (fun s5 S5 => ?_) (.inr hln)
          refine wpAny_mono ((hsu a oe4 cls d (X.pn ++ pins) hz4 ⟨_, hd4⟩).run [] s5 _ H' _ S5 (hyes rfl a na)) (fun f s6 hsp => ?_) (fun _ _ z => False.elim z)
          have end_ : ∀ {σ6 : L2.St} {H6 : Hp} {Q : Shared → Prop}, Inv (X.suite a ((a, oe4) :: (X.pn ++ pins))) [] σ6 H6 s6 → (∀ s7, Inv X pins (σ6.set i none) H6 s7 → Q s7) →
              wpAny (model X.prog X.w) X.A (do bindName X.env n .none; unbindBehindTheSuite X.env n pos') (fun _ s7 => Q s7) X.xe s6 := fun {σ6 H6 Q} S6 hq => gone_ok (S6.unsuite ok) hN hi hln hq
          cases f with
          | next =>
            obtain ⟨σ6, H6, S6, q6⟩ := hsp
            exact end_ S6 fun s7 J7 => ⟨_, _, J7, q6⟩
          | brk =>
            obtain ⟨σ6, H6, S6, q6⟩ := hsp
            exact end_ S6 fun s7 J7 => ⟨_, _, J7, q6⟩
          | cont =>
            obtain ⟨σ6, H6, S6, q6⟩ := hsp
            exact end_ S6 fun s7 J7 => ⟨_, _, J7, q6⟩
          | ret u =>
            obtain ⟨v6, σ6, H6, S6, r6, q6⟩ := hsp
            exact end_ S6 fun s7 J7 => ⟨_, _, _, J7, r6, q6⟩
        | false =>
          show wpAny _ X.A (handleBy (.ref a) X.env hds2) _ _ _
          exact ih (hno rfl)
    exact go hh w
  · cases f with
    | next =>
      obtain ⟨σ', H', J', q⟩ := hsp
      exact wpAny_execs_nil ⟨σ', H', J'.ofTry ok, q⟩
    | brk =>
      obtain ⟨σ', H', J', q⟩ := hsp
      exact ⟨σ', H', J'.ofTry ok, q⟩
    | cont =>
      obtain ⟨σ', H', J', q⟩ := hsp
      exact ⟨σ', H', J'.ofTry ok, q⟩
    | ret u =>
      obtain ⟨v, σ', H', J', r, q⟩ := hsp
      exact ⟨v, σ', H', J'.ofTry ok, r, q⟩
end
end FK

/-! What the program's numbers are and how large they grow: the bends, the depths. -/
namespace Cox
/-- every number on the way of a sine's recurrence is small -/
def sineOk (double : Int) (bits k : Nat) : Bool :=
  (List.range (k + 1)).all fun j => match sineF double (2 ^ bits) j with
    | (b, v, sb, sl) => decide (b.natAbs < 2 ^ (bits + 60)) && (decide (v.natAbs < 2 ^ (bits + 60)) && (decide (sb.natAbs < 2 ^ (bits + 60)) && decide (sl.natAbs < 2 ^ (bits + 60))))
/-- the search for a bend comes to its end within so many steps, by positive slopes -/
def bendOk (order bits : Nat) : Nat → Int → Bool
  | 0, _ => false
  | f + 1, bend => match sineF bend (2 ^ bits) (order - 1) with
    | (_, value, _, slope) => decide (bend.natAbs < 2 ^ (bits + 2)) && (sineOk bend bits (order - 1) && (decide (0 < slope) && (if value * 2 ^ bits / slope ≤ 0 then true else bendOk order bits f (bend - value * 2 ^ bits / slope))))
def bendsOk (bits : Nat) : Bool := (List.range 13).all fun n => (n == 0 || n == 1 || bendOk n bits 40 (2 * 2 ^ bits)) && decide ((bendF n bits).natAbs ≤ 2 * 2 ^ bits)
theorem bends_ok : ∀ s : Fin 8, bendsOk (256 * (s.1 + 1) + 32) = true := by decide +kernel
theorem bendOk_of {s n : Nat} (hs : s < 8) (hn : okOrd n) (h0 : n ≠ 0) : bendOk n (256 * (s + 1) + 32) 40 (2 * 2 ^ (256 * (s + 1) + 32)) = true := by
  have h := bends_ok ⟨s, hs⟩
  have := List.all_eq_true.mp h n (List.mem_range.mpr (by rcases hn with h | h <;> omega))
  rw [Bool.and_eq_true] at this
  have h1 : n ≠ 1 := by rcases hn with h | h <;> omega
  simpa [h0, h1] using this.1
theorem bend_abs {s n : Nat} (hs : s < 8) (hn : okOrd n) : (bendF n (256 * (s + 1) + 32)).natAbs ≤ 2 * 2 ^ (256 * (s + 1) + 32) := by
  have h := bends_ok ⟨s, hs⟩
  have := List.all_eq_true.mp h n (List.mem_range.mpr (by rcases hn with h | h <;> omega))
  rw [Bool.and_eq_true] at this
  exact of_decide_eq_true this.2
/-- how large depths grow -/
theorem step_abs {b d e : Int} {T M : Nat} (hT : 0 < T) (hb : b.natAbs ≤ 2 * T) (hd : d.natAbs ≤ M) (he : e.natAbs ≤ M) (hM : 0 < M) : (d + b * e / (T : Int)).natAbs ≤ 4 * M := by
  have h1 : (b * e).natAbs ≤ (2 * M) * T := by
    rw [Int.natAbs_mul]
    have := Nat.mul_le_mul hb he
    calc b.natAbs * e.natAbs ≤ 2 * T * M := this
      _ = (2 * M) * T := by rw [Nat.mul_assoc, Nat.mul_comm T M, ← Nat.mul_assoc]
  have hT' : (0 : Int) < (T : Int) := by omega
  have up : b * e / (T : Int) ≤ 2 * M := by
    have h3 : b * e ≤ (2 * M : Nat) * (T : Int) := by
      have : b * e ≤ ((b * e).natAbs : Int) := by omega
      have h4 : ((b * e).natAbs : Int) ≤ (((2 * M) * T : Nat) : Int) := by omega
      rw [Int.natCast_mul] at h4
      omega
    have := Int.ediv_le_ediv hT' h3
    rw [Int.mul_ediv_cancel _ (by omega)] at this
    omega
  have lo : -(2 * M : Int) ≤ b * e / (T : Int) := by
    have h3 : (-(2 * M : Int)) * (T : Int) ≤ b * e := by
      have : -((b * e).natAbs : Int) ≤ b * e := by omega
      have h4 : ((b * e).natAbs : Int) ≤ (((2 * M) * T : Nat) : Int) := by omega
      rw [Int.natCast_mul] at h4
      rw [Int.neg_mul]
      have e5 : ((2 * M : Nat) : Int) = 2 * (M : Int) := by omega
      rw [e5] at h4
      omega
    exact Int.le_ediv_of_mul_le hT' h3
  omega
theorem dep_abs {B : Fin 3 → Fin 3 → Int} {T : Nat} (hT : 0 < T) (hB : ∀ i j, i ≠ j → (B i j).natAbs ≤ 2 * T) : ∀ (w : W) (j : Fin 3), (depI B (T : Int) w j).natAbs ≤ T * 4 ^ w.length
  | [], j => by
    show ((T : Int)).natAbs ≤ T * 4 ^ 0
    omega
  | i :: w, j => by
    have ih := dep_abs hT hB w
    have p : 0 < T * 4 ^ w.length := Nat.mul_pos hT (Nat.pow_pos (by decide))
    have e : T * 4 ^ (i :: w).length = 4 * (T * 4 ^ w.length) := by
      rw [List.length_cons, Nat.pow_succ, Nat.mul_comm _ 4, ← Nat.mul_assoc, Nat.mul_comm T 4, Nat.mul_assoc]
    rw [e]
    show (stepI B (T : Int) i (depI B (T : Int) w) j).natAbs ≤ _
    unfold stepI
    split
    · have := ih i
      rw [Int.natAbs_neg]
      omega
    · rename_i c
      exact step_abs hT (hB i j (fun z => c z.symm)) (ih j) (ih i) p
theorem tri_abs {a b c : Int} {M : Nat} (ha : a.natAbs ≤ M) (hb : b.natAbs ≤ M) (hc : c.natAbs ≤ M) : ∀ i j : Fin 3, i ≠ j → (tri 0 a b c i j).natAbs ≤ M := by
  intro i j hij
  unfold tri
  rw [if_neg hij]
  split
  · exact ha
  · split
    · exact hb
    · exact hc
end Cox

/-! Words of letters as texts. -/
namespace Cox
open PySem L2
def wS (w : W) : Str := ⟨(w.map fun i => 48 + i.1).toArray⟩
theorem wS_len (w : W) : (wS w).length = w.length := by
  show ((w.map fun i => 48 + i.1).toArray).size = _
  simp
theorem wS_list (w : W) : (wS w).cps.toList = w.map fun i => 48 + i.1 := by
  show ((w.map fun i => 48 + i.1).toArray).toList = _
  simp
theorem str_ext {x y : Str} (h : x.cps.toList = y.cps.toList) : x = y := by
  cases x with | mk a => cases y with | mk b =>
  have : a = b := Array.toList_inj.mp h
  rw [this]
theorem wS_app (u v : W) : wS u ++ wS v = wS (u ++ v) := by
  apply str_ext
  show ((wS u).cps ++ (wS v).cps).toList = _
  rw [Array.toList_append, wS_list, wS_list, wS_list, List.map_append]
theorem wS_inj {u v : W} (h : wS u = wS v) : u = v := by
  have h2 : u.map (fun i : Fin 3 => 48 + i.1) = v.map fun i => 48 + i.1 := by rw [← wS_list, ← wS_list, h]
  exact List.map_inj_right (fun a b e => Fin.ext (by omega)) |>.mp h2
theorem wS_rev (w : W) : FK.revS (wS w) = wS w.reverse := by
  apply str_ext
  show ((wS w).cps.toList.reverse.toArray).toList = _
  rw [wS_list, wS_list, List.map_reverse]
theorem wS_nil : wS [] = "" := by decide +kernel
theorem wS_one (i : Fin 3) : wS [i] = ⟨#[48 + i.1]⟩ := rfl
theorem wS_at {w : W} {k : Nat} {c : Nat} (h : (wS w).cps[k]? = some c) : ∃ i, w[k]? = some i ∧ (⟨#[c]⟩ : Str) = wS [i] := by
  rw [← Array.getElem?_toList, wS_list, List.getElem?_map] at h
  cases e : w[k]? with
  | none => rw [e] at h; cases h
  | some i => rw [e] at h; cases h; exact ⟨i, rfl, rfl⟩
theorem let3 (i : Fin 3) : wS [i] = "0" ∧ i = 0 ∨ wS [i] = "1" ∧ i = 1 ∨ wS [i] = "2" ∧ i = 2 := by
  revert i
  decide +kernel
theorem cutS_wS (w : W) (lo hi : Option Int) : cutS (wS w) lo hi = wS ((w.drop (HT.sIx w.length 0 lo)).take (HT.sIx w.length w.length hi - HT.sIx w.length 0 lo)) := by
  apply str_ext
  unfold cutS
  show (List.toArray _).toList = _
  rw [wS_list, wS_list, wS_len, List.map_take, List.map_drop]
theorem sIx_none (n d : Nat) : HT.sIx n d none = d := rfl
theorem sIx_nat (n d k : Nat) (h : k ≤ n) : HT.sIx n d (some (k : Int)) = k := by rw [HT.sIx_nat]; omega
theorem sIx_big (n d k : Nat) (h : n ≤ k) : HT.sIx n d (some (k : Int)) = n := by rw [HT.sIx_nat]; omega
theorem cut_to (w : W) (k : Nat) : cutS (wS w) none (some (k : Int)) = wS (w.take k) := by
  rw [cutS_wS, sIx_none, List.drop_zero]
  by_cases h : k ≤ w.length
  · rw [sIx_nat _ _ _ h, Nat.sub_zero]
  · rw [sIx_big _ _ _ (by omega), Nat.sub_zero, List.take_of_length_le (Nat.le_refl _), List.take_of_length_le (by omega)]
theorem cut_from (w : W) (k : Nat) : cutS (wS w) (some (k : Int)) none = wS (w.drop k) := by
  rw [cutS_wS, sIx_none]
  by_cases h : k ≤ w.length
  · rw [sIx_nat _ _ _ h, List.take_of_length_le (by rw [List.length_drop]; omega)]
  · rw [sIx_big _ _ _ (by omega), List.drop_of_length_le (Nat.le_refl _), List.drop_of_length_le (by omega)]
    simp
theorem cut_mid (w : W) (k n : Nat) : cutS (wS w) (some (k : Int)) (some ((k + n : Nat) : Int)) = wS ((w.drop k).take n) := by
  rw [cutS_wS]
  by_cases h : k ≤ w.length
  · by_cases h2 : k + n ≤ w.length
    · rw [sIx_nat _ _ _ h, sIx_nat _ _ _ h2, Nat.add_sub_cancel_left]
    · rw [sIx_nat _ _ _ h, sIx_big _ _ _ (by omega), List.take_of_length_le (by rw [List.length_drop]; omega), List.take_of_length_le (by rw [List.length_drop]; omega)]
  · rw [sIx_big _ _ _ (by omega), sIx_big _ _ _ (by omega), List.drop_of_length_le (Nat.le_refl _), List.drop_of_length_le (by omega)]
    simp
/-- the last letter, as a text -/
theorem cut_last (w : W) : cutS (wS w) (some (-1 : Int)) none = wS (w.drop (w.length - 1)) := by
  rw [cutS_wS, sIx_none]
  have e : HT.sIx w.length 0 (some (-1)) = w.length - 1 := by
    show (if (-1 : Int) < 0 then ((-1 : Int) + (w.length : Int)).toNat else min ((-1 : Int)).toNat w.length) = _
    rw [if_pos (by decide)]
    omega
  rw [e, List.take_of_length_le (by rw [List.length_drop]; omega)]
theorem letter_of {x : Str} (h : inV (.str x) [.str "0", .str "1", .str "2"] = true) : ∃ i : Fin 3, x = wS [i] := by
  unfold inV at h
  simp only [List.any_cons, List.any_nil, Bool.or_false, Bool.or_eq_true, decide_eq_true_eq, V.str.injEq] at h
  rcases h with h | h | h
  · have h2 : ("0" : Str) = x := eq_of_beq h
    exact ⟨0, h2.symm.trans (by decide +kernel)⟩
  · have h2 : ("1" : Str) = x := eq_of_beq h
    exact ⟨1, h2.symm.trans (by decide +kernel)⟩
  · have h2 : ("2" : Str) = x := eq_of_beq h
    exact ⟨2, h2.symm.trans (by decide +kernel)⟩
theorem is_letter (i : Fin 3) : inV (.str (wS [i])) [.str "0", .str "1", .str "2"] = true := by
  revert i
  decide +kernel
theorem word_of {x : Str} (h : ∀ c ∈ x.cps.toList, inV (.str ⟨#[c]⟩) [.str "0", .str "1", .str "2"] = true) : ∃ w, x = wS w := by
  have go : ∀ l : List Nat, (∀ c ∈ l, inV (.str ⟨#[c]⟩) [.str "0", .str "1", .str "2"] = true) → ∃ w : W, l = w.map fun i => 48 + i.1 := by
    intro l
    induction l with
    | nil => exact fun _ => ⟨[], rfl⟩
    | cons c l ih =>
      intro h
      obtain ⟨w, rfl⟩ := ih fun c hc => h c (List.mem_cons_of_mem _ hc)
      obtain ⟨i, hi⟩ := letter_of (h c List.mem_cons_self)
      have e : [c] = [48 + i.1] := by
        have := congrArg (fun z : Str => z.cps.toList) hi
        simpa [wS_one] using this
      injection e with e _
      exact ⟨i :: w, by rw [e]; rfl⟩
  obtain ⟨w, hw⟩ := go _ h
  exact ⟨w, str_ext (by rw [hw, wS_list])⟩
/-- the order of texts of one length is that of the words -/
theorem lx_lt : ∀ {u v : W}, u.length = v.length → ¬ ((wS v).cps.toList < (wS u).cps.toList) → lx u v
  | [], _, _, _ => trivial
  | a :: x, [], h, _ => by cases h
  | a :: x, b :: y, h, hn => by
    have hl : x.length = y.length := by simpa using h
    rw [wS_list, wS_list] at hn
    show a < b ∨ a = b ∧ lx x y
    rw [List.map_cons, List.map_cons, List.cons_lt_cons_iff] at hn
    have n1 : ¬ (48 + b.1 < 48 + a.1) := fun z => hn (.inl z)
    by_cases c : a = b
    · refine .inr ⟨c, lx_lt hl fun z => hn (.inr ⟨by rw [c], ?_⟩)⟩
      rw [wS_list, wS_list] at z
      exact z
    · exact .inl (by
        show a.1 < b.1
        have : a.1 ≠ b.1 := fun z => c (Fin.ext z)
        omega)
end Cox

namespace K32
open PySem PySem.Spec PyProof.Rows L2
def topS (i : Nat) : Stmt := PySem.Challenge.pw_foldfloor_k32_hulls.main.body.getD i (.Pass ⟨0, 0, 0, 0⟩)
abbrev s_is_order : Stmt := topS 11
abbrev s_is_orders : Stmt := topS 12
abbrev s_check_orders : Stmt := topS 13
abbrev s_is_letter : Stmt := topS 14
abbrev s_is_word : Stmt := topS 15
abbrev s_check_long_word : Stmt := topS 16
abbrev s_check_word : Stmt := topS 17
abbrev s_check_words : Stmt := topS 18
abbrev s_check_letter : Stmt := topS 19
abbrev s_in_order : Stmt := topS 20
abbrev s_sine_ratio : Stmt := topS 24
abbrev s_bend_of : Stmt := topS 25
abbrev s_scale_for : Stmt := topS 26
abbrev s_first_depths : Stmt := topS 27
abbrev s_depths_behind : Stmt := topS 28
abbrev s_depths_of : Stmt := topS 29
abbrev s_first_far : Stmt := topS 30
abbrev s_Floor_init : Stmt := inClass (topS 31) 0
abbrev s_Floor_scale : Stmt := inClass (topS 31) 1
abbrev s_Floor_normal : Stmt := inClass (topS 31) 2
abbrev s_polygon_within_limits : Stmt := topS 34
abbrev s_wall_at : Stmt := topS 36
abbrev s_way_between : Stmt := topS 38
abbrev s_check_given : Stmt := topS 42
abbrev s_walls_parting : Stmt := topS 43
abbrev s_tiles_within : Stmt := topS 44
abbrev s_hull_within : Stmt := topS 45
abbrev s_hull : Stmt := topS 46
abbrev s_is_convex : Stmt := topS 47
abbrev s_hull_polygon : Stmt := topS 48
abbrev s_Tiles_init : Stmt := inClass (topS 51) 0
abbrev s_Tiles_normal : Stmt := inClass (topS 51) 1
abbrev s_Tiles_beyond : Stmt := inClass (topS 51) 2
abbrev s_Tiles_remembered : Stmt := inClass (topS 51) 4
abbrev s_law_cell : Stmt := topS 53
abbrev s_law_values : Stmt := topS 54
abbrev s_law_orders : Stmt := topS 55
abbrev s_law_word : Stmt := topS 56
abbrev s_law_key : Stmt := topS 58
abbrev s_law_mirror : Stmt := topS 59
abbrev s_law_crossed : Stmt := topS 60
abbrev s_law_parting : Stmt := topS 61
abbrev s_law_sorted : Stmt := topS 62
abbrev s_law_hull : Stmt := topS 63
abbrev s_law_told : Stmt := topS 64
abbrev s_law : Stmt := topS 65
theorem sc_is_order : FnScope ["order"] ["order"] (defScope s_is_order) := ⟨rfl, rfl, rfl, by decide +kernel, rfl, by decide +kernel, by decide +kernel⟩
theorem sc_is_orders : FnScope ["orders", "order"] ["orders"] (defScope s_is_orders) := ⟨rfl, rfl, rfl, by decide +kernel, rfl, by decide +kernel, by decide +kernel⟩
theorem sc_check_orders : FnScope ["orders"] ["orders"] (defScope s_check_orders) := ⟨rfl, rfl, rfl, by decide +kernel, rfl, by decide +kernel, by decide +kernel⟩
theorem sc_is_letter : FnScope ["text"] ["text"] (defScope s_is_letter) := ⟨rfl, rfl, rfl, by decide +kernel, rfl, by decide +kernel, by decide +kernel⟩
theorem sc_is_word : FnScope ["text", "most", "letter"] ["text", "most"] (defScope s_is_word) := ⟨rfl, rfl, rfl, by decide +kernel, rfl, by decide +kernel, by decide +kernel⟩
theorem sc_check_long_word : FnScope ["word", "most"] ["word", "most"] (defScope s_check_long_word) := ⟨rfl, rfl, rfl, by decide +kernel, rfl, by decide +kernel, by decide +kernel⟩
theorem sc_check_word : FnScope ["word"] ["word"] (defScope s_check_word) := ⟨rfl, rfl, rfl, by decide +kernel, rfl, by decide +kernel, by decide +kernel⟩
theorem sc_check_words : FnScope ["words", "word"] ["words"] (defScope s_check_words) := ⟨rfl, rfl, rfl, by decide +kernel, rfl, by decide +kernel, by decide +kernel⟩
theorem sc_check_letter : FnScope ["text"] ["text"] (defScope s_check_letter) := ⟨rfl, rfl, rfl, by decide +kernel, rfl, by decide +kernel, by decide +kernel⟩
theorem sc_in_order : FnScope ["words"] ["words"] (defScope s_in_order) := ⟨rfl, rfl, rfl, by decide +kernel, rfl, by decide +kernel, by decide +kernel⟩
theorem sc_sine_ratio : FnScope ["order", "double", "bits", "_", "before", "value", "slope_before", "slope"] ["order", "double", "bits"] (defScope s_sine_ratio) := ⟨rfl, rfl, rfl, by decide +kernel, rfl, by decide +kernel, by decide +kernel⟩
theorem sc_bend_of : FnScope ["order", "bits", "bend", "step", "value", "slope"] ["order", "bits"] (defScope s_bend_of) := ⟨rfl, rfl, rfl, by decide +kernel, rfl, by decide +kernel, by decide +kernel⟩
theorem sc_scale_for : FnScope ["orders", "steps", "bits", "order"] ["orders", "steps"] (defScope s_scale_for) := ⟨rfl, rfl, rfl, by decide +kernel, rfl, by decide +kernel, by decide +kernel⟩
theorem sc_first_depths : FnScope ["scale", "one"] ["scale"] (defScope s_first_depths) := ⟨rfl, rfl, rfl, by decide +kernel, rfl, by decide +kernel, by decide +kernel⟩
theorem sc_depths_behind : FnScope ["scale", "depths", "letter", "bits", "zero", "one", "two", "b01", "b12", "b02"] ["scale", "depths", "letter"] (defScope s_depths_behind) := ⟨rfl, rfl, rfl, by decide +kernel, rfl, by decide +kernel, by decide +kernel⟩
theorem sc_depths_of : FnScope ["scale", "word", "depths", "letter"] ["scale", "word"] (defScope s_depths_of) := ⟨rfl, rfl, rfl, by decide +kernel, rfl, by decide +kernel, by decide +kernel⟩
theorem sc_first_far : FnScope ["depths", "zero", "one", "two"] ["depths"] (defScope s_first_far) := ⟨rfl, rfl, rfl, by decide +kernel, rfl, by decide +kernel, by decide +kernel⟩
theorem sc_Floor_init : FnScope ["self", "orders"] ["self", "orders"] (defScope s_Floor_init) := ⟨rfl, rfl, rfl, by decide +kernel, rfl, by decide +kernel, by decide +kernel⟩
theorem sc_Floor_scale : FnScope ["self", "steps", "size"] ["self", "steps"] (defScope s_Floor_scale) := ⟨rfl, rfl, rfl, by decide +kernel, rfl, by decide +kernel, by decide +kernel⟩
theorem sc_Floor_normal : FnScope ["self", "word", "scale", "depths", "letters", "letter"] ["self", "word"] (defScope s_Floor_normal) := ⟨rfl, rfl, rfl, by decide +kernel, rfl, by decide +kernel, by decide +kernel⟩
theorem sc_polygon_within_limits : FnScope ["orders", "tiles", "tile"] ["orders", "tiles"] (defScope s_polygon_within_limits) := ⟨rfl, rfl, rfl, by decide +kernel, rfl, by decide +kernel, by decide +kernel⟩
theorem sc_wall_at : FnScope ["floor", "tile", "letter"] ["floor", "tile", "letter"] (defScope s_wall_at) := ⟨rfl, rfl, rfl, by decide +kernel, rfl, by decide +kernel, by decide +kernel⟩
theorem sc_way_between : FnScope ["floor", "one", "other"] ["floor", "one", "other"] (defScope s_way_between) := ⟨rfl, rfl, rfl, by decide +kernel, rfl, by decide +kernel, by decide +kernel⟩
theorem sc_check_given : FnScope ["orders", "words"] ["orders", "words"] (defScope s_check_given) := ⟨rfl, rfl, rfl, by decide +kernel, rfl, by decide +kernel, by decide +kernel⟩
theorem sc_walls_parting : FnScope ["floor", "words", "first", "sides", "word", "here", "letter", "tile"] ["floor", "words"] (defScope s_walls_parting) := ⟨rfl, rfl, rfl, by decide +kernel, rfl, by decide +kernel, by decide +kernel⟩
theorem sc_tiles_within : FnScope ["floor", "first", "walls", "most", "met", "queue", "tile", "letter", "there"] ["floor", "first", "walls", "most"] (defScope s_tiles_within) := ⟨rfl, rfl, rfl, by decide +kernel, rfl, by decide +kernel, by decide +kernel⟩
theorem sc_hull_within : FnScope ["orders", "words", "most", "floor"] ["orders", "words", "most"] (defScope s_hull_within) := ⟨rfl, rfl, rfl, by decide +kernel, rfl, by decide +kernel, by decide +kernel⟩
theorem sc_hull : FnScope ["orders", "words"] ["orders", "words"] (defScope s_hull) := ⟨rfl, rfl, rfl, by decide +kernel, rfl, by decide +kernel, by decide +kernel⟩
theorem sc_is_convex : FnScope ["orders", "words", "tiles", "floor", "given", "word"] ["orders", "words"] (defScope s_is_convex) := ⟨rfl, rfl, rfl, by decide +kernel, rfl, by decide +kernel, by decide +kernel⟩
theorem sc_hull_polygon : FnScope ["orders", "words"] ["orders", "words"] (defScope s_hull_polygon) := ⟨rfl, rfl, rfl, by decide +kernel, rfl, by decide +kernel, by decide +kernel⟩
theorem sc_Tiles_init : FnScope ["self", "orders"] ["self", "orders"] (defScope s_Tiles_init) := ⟨rfl, rfl, rfl, by decide +kernel, rfl, by decide +kernel, by decide +kernel⟩
theorem sc_Tiles_normal : FnScope ["self", "word"] ["self", "word"] (defScope s_Tiles_normal) := ⟨rfl, rfl, rfl, by decide +kernel, rfl, by decide +kernel, by decide +kernel⟩
theorem sc_Tiles_beyond : FnScope ["self", "tile", "letter"] ["self", "tile", "letter"] (defScope s_Tiles_beyond) := ⟨rfl, rfl, rfl, by decide +kernel, rfl, by decide +kernel, by decide +kernel⟩
theorem sc_Tiles_remembered : FnScope ["self", "word"] ["self", "word"] (defScope s_Tiles_remembered) := ⟨rfl, rfl, rfl, by decide +kernel, rfl, by decide +kernel, by decide +kernel⟩
theorem sc_law_cell : FnScope ["script", "k"] ["script", "k"] (defScope s_law_cell) := ⟨rfl, rfl, rfl, by decide +kernel, rfl, by decide +kernel, by decide +kernel⟩
theorem sc_law_values : FnScope ["cell", "count", "size", "values", "rest", "k", "mixed"] ["cell", "count", "size"] (defScope s_law_values) := ⟨rfl, rfl, rfl, by decide +kernel, rfl, by decide +kernel, by decide +kernel⟩
theorem sc_law_orders : FnScope ["cell", "kinds"] ["cell"] (defScope s_law_orders) := ⟨rfl, rfl, rfl, by decide +kernel, rfl, by decide +kernel, by decide +kernel⟩
theorem sc_law_word : FnScope ["cell", "most", "values", "value"] ["cell", "most"] (defScope s_law_word) := ⟨rfl, rfl, rfl, by decide +kernel, rfl, by decide +kernel, by decide +kernel⟩
theorem sc_law_key : FnScope ["word"] ["word"] (defScope s_law_key) := ⟨rfl, rfl, rfl, by decide +kernel, rfl, by decide +kernel, by decide +kernel⟩
theorem sc_law_mirror : FnScope ["floor", "word", "letter"] ["floor", "word", "letter"] (defScope s_law_mirror) := ⟨rfl, rfl, rfl, by decide +kernel, rfl, by decide +kernel, by decide +kernel⟩
theorem sc_law_crossed : FnScope ["floor", "word", "path", "walls", "here", "letter"] ["floor", "word", "path"] (defScope s_law_crossed) := ⟨rfl, rfl, rfl, by decide +kernel, rfl, by decide +kernel, by decide +kernel⟩
theorem sc_law_parting : FnScope ["floor", "words", "walls", "word", "path", "wall"] ["floor", "words"] (defScope s_law_parting) := ⟨rfl, rfl, rfl, by decide +kernel, rfl, by decide +kernel, by decide +kernel⟩
theorem sc_law_sorted : FnScope ["tiles", "key", "tile"] ["tiles"] (defScope s_law_sorted) := ⟨rfl, rfl, rfl, by decide +kernel, rfl, by decide +kernel, by decide +kernel⟩
theorem sc_law_hull : FnScope ["floor", "words", "walls", "met", "k", "letter", "beyond"] ["floor", "words"] (defScope s_law_hull) := ⟨rfl, rfl, rfl, by decide +kernel, rfl, by decide +kernel, by decide +kernel⟩
theorem sc_law_told : FnScope ["which", "orders", "words", "e"] ["which", "orders", "words"] (defScope s_law_told) := ⟨rfl, rfl, rfl, by decide +kernel, rfl, by decide +kernel, by decide +kernel⟩
theorem sc_law : FnScope ["script", "orders", "floor", "most", "words", "due", "large", "tiles", "word", "told", "polygon", "which", "k"] ["script"] (defScope s_law) := ⟨rfl, rfl, rfl, by decide +kernel, rfl, by decide +kernel, by decide +kernel⟩
/-- where the top's classes and constants stand -/
structure Xs where
  FoldError : Addr
  NotOrders : Addr
  NotWord : Addr
  NotPolygon : Addr
  TooLarge : Addr
  NoAnswer : Addr
  Floor : Addr
  Tiles : Addr
  t_LETTERS : Tok
  t_MOST_LETTERS : Tok
  t_GUARD : Tok
  t_SIZE : Tok
  t_MOST_TILES : Tok
  t_MOST_WORDS : Tok
  t_MOST_HULL : Tok
  t_MOST_REMEMBERED : Tok
/-- what the top has written -/
structure Txt (K : PySem.W.Frag) (mg : Str → Option Value) (cx : Xs) : Prop where
  d_is_order : FK.At K mg "is_order" s_is_order ["order"]
  d_is_orders : FK.At K mg "is_orders" s_is_orders ["orders"]
  d_check_orders : FK.At K mg "check_orders" s_check_orders ["orders"]
  d_is_letter : FK.At K mg "is_letter" s_is_letter ["text"]
  d_is_word : FK.At K mg "is_word" s_is_word ["text", "most"]
  d_check_long_word : FK.At K mg "check_long_word" s_check_long_word ["word", "most"]
  d_check_word : FK.At K mg "check_word" s_check_word ["word"]
  d_check_words : FK.At K mg "check_words" s_check_words ["words"]
  d_check_letter : FK.At K mg "check_letter" s_check_letter ["text"]
  d_in_order : FK.At K mg "in_order" s_in_order ["words"]
  d_sine_ratio : FK.At K mg "sine_ratio" s_sine_ratio ["order", "double", "bits"]
  d_bend_of : FK.At K mg "bend_of" s_bend_of ["order", "bits"]
  d_scale_for : FK.At K mg "scale_for" s_scale_for ["orders", "steps"]
  d_first_depths : FK.At K mg "first_depths" s_first_depths ["scale"]
  d_depths_behind : FK.At K mg "depths_behind" s_depths_behind ["scale", "depths", "letter"]
  d_depths_of : FK.At K mg "depths_of" s_depths_of ["scale", "word"]
  d_first_far : FK.At K mg "first_far" s_first_far ["depths"]
  d_Floor_init : FK.IAt K cx.Floor "Floor.__init__" s_Floor_init ["self", "orders"]
  d_Floor_scale : FK.MAt K cx.Floor "scale" "Floor.scale" s_Floor_scale ["self", "steps"]
  d_Floor_normal : FK.MAt K cx.Floor "normal" "Floor.normal" s_Floor_normal ["self", "word"]
  d_polygon_within_limits : FK.At K mg "polygon_within_limits" s_polygon_within_limits ["orders", "tiles"]
  d_wall_at : FK.At K mg "wall_at" s_wall_at ["floor", "tile", "letter"]
  d_way_between : FK.At K mg "way_between" s_way_between ["floor", "one", "other"]
  d_check_given : FK.At K mg "check_given" s_check_given ["orders", "words"]
  d_walls_parting : FK.At K mg "walls_parting" s_walls_parting ["floor", "words"]
  d_tiles_within : FK.At K mg "tiles_within" s_tiles_within ["floor", "first", "walls", "most"]
  d_hull_within : FK.At K mg "hull_within" s_hull_within ["orders", "words", "most"]
  d_hull : FK.At K mg "hull" s_hull ["orders", "words"]
  d_is_convex : FK.At K mg "is_convex" s_is_convex ["orders", "words"]
  d_hull_polygon : FK.At K mg "hull_polygon" s_hull_polygon ["orders", "words"]
  d_Tiles_init : FK.IAt K cx.Tiles "Tiles.__init__" s_Tiles_init ["self", "orders"]
  d_Tiles_normal : FK.MAt K cx.Tiles "normal" "Tiles.normal" s_Tiles_normal ["self", "word"]
  d_Tiles_beyond : FK.MAt K cx.Tiles "beyond" "Tiles.beyond" s_Tiles_beyond ["self", "tile", "letter"]
  d_Tiles_remembered : FK.MAt K cx.Tiles "remembered" "Tiles.remembered" s_Tiles_remembered ["self", "word"]
  d_law_cell : FK.At K mg "_law_cell" s_law_cell ["script", "k"]
  d_law_values : FK.At K mg "_law_values" s_law_values ["cell", "count", "size"]
  d_law_orders : FK.At K mg "_law_orders" s_law_orders ["cell"]
  d_law_word : FK.At K mg "_law_word" s_law_word ["cell", "most"]
  d_law_key : FK.At K mg "_law_key" s_law_key ["word"]
  d_law_mirror : FK.At K mg "_law_mirror" s_law_mirror ["floor", "word", "letter"]
  d_law_crossed : FK.At K mg "_law_crossed" s_law_crossed ["floor", "word", "path"]
  d_law_parting : FK.At K mg "_law_parting" s_law_parting ["floor", "words"]
  d_law_sorted : FK.At K mg "_law_sorted" s_law_sorted ["tiles"]
  d_law_hull : FK.At K mg "_law_hull" s_law_hull ["floor", "words"]
  d_law_told : FK.At K mg "_law_told" s_law_told ["which", "orders", "words"]
  d_law : FK.At K mg "law" s_law ["script"]
  g_Floor : mg "Floor" = some (.ref cx.Floor)
  cl_Floor : Cls K cx.Floor
  nF_Floor_orders : NoAttr K cx.Floor "orders"
  nF_Floor_scales : NoAttr K cx.Floor "scales"
  g_Tiles : mg "Tiles" = some (.ref cx.Tiles)
  cl_Tiles : Cls K cx.Tiles
  nF_Tiles_floor : NoAttr K cx.Tiles "floor"
  nF_Tiles_normals : NoAttr K cx.Tiles "normals"
  n_all : mg "all" = none
  n_bool : mg "bool" = none
  n_int : mg "int" = none
  n_isinstance : mg "isinstance" = none
  n_len : mg "len" = none
  n_list : mg "list" = none
  n_max : mg "max" = none
  n_range : mg "range" = none
  n_repr : mg "repr" = none
  n_sorted : mg "sorted" = none
  n_tuple : mg "tuple" = none
  x_FoldError : FK.XC K mg "FoldError" cx.FoldError
  x_NotOrders : FK.XC K mg "NotOrders" cx.NotOrders
  x_NotWord : FK.XC K mg "NotWord" cx.NotWord
  x_NotPolygon : FK.XC K mg "NotPolygon" cx.NotPolygon
  x_TooLarge : FK.XC K mg "TooLarge" cx.TooLarge
  x_NoAnswer : FK.XC K mg "NoAnswer" cx.NoAnswer
  c_LETTERS : mg "LETTERS" = some (.str "012" cx.t_LETTERS)
  c_MOST_LETTERS : mg "MOST_LETTERS" = some (.int 60 cx.t_MOST_LETTERS)
  c_GUARD : mg "GUARD" = some (.int 32 cx.t_GUARD)
  c_SIZE : mg "SIZE" = some (.int 128 cx.t_SIZE)
  c_MOST_TILES : mg "MOST_TILES" = some (.int 60 cx.t_MOST_TILES)
  c_MOST_WORDS : mg "MOST_WORDS" = some (.int 60 cx.t_MOST_WORDS)
  c_MOST_HULL : mg "MOST_HULL" = some (.int 200 cx.t_MOST_HULL)
  c_MOST_REMEMBERED : mg "MOST_REMEMBERED" = some (.int 400 cx.t_MOST_REMEMBERED)
  exm_NotOrders_NotOrders : PySem.W.exmOne K (.ref cx.NotOrders) (.ref cx.NotOrders) = some true
  exm_NotOrders_NotWord : PySem.W.exmOne K (.ref cx.NotOrders) (.ref cx.NotWord) = some false
  exm_NotOrders_NoAnswer : PySem.W.exmOne K (.ref cx.NotOrders) (.ref cx.NoAnswer) = some false
  exm_NotOrders_TooLarge : PySem.W.exmOne K (.ref cx.NotOrders) (.ref cx.TooLarge) = some false
  exm_NotOrders_NotPolygon : PySem.W.exmOne K (.ref cx.NotOrders) (.ref cx.NotPolygon) = some false
  exm_NotWord_NotOrders : PySem.W.exmOne K (.ref cx.NotWord) (.ref cx.NotOrders) = some false
  exm_NotWord_NotWord : PySem.W.exmOne K (.ref cx.NotWord) (.ref cx.NotWord) = some true
  exm_NotWord_NoAnswer : PySem.W.exmOne K (.ref cx.NotWord) (.ref cx.NoAnswer) = some false
  exm_NotWord_TooLarge : PySem.W.exmOne K (.ref cx.NotWord) (.ref cx.TooLarge) = some false
  exm_NotWord_NotPolygon : PySem.W.exmOne K (.ref cx.NotWord) (.ref cx.NotPolygon) = some false
  exm_NoAnswer_NotOrders : PySem.W.exmOne K (.ref cx.NoAnswer) (.ref cx.NotOrders) = some false
  exm_NoAnswer_NotWord : PySem.W.exmOne K (.ref cx.NoAnswer) (.ref cx.NotWord) = some false
  exm_NoAnswer_NoAnswer : PySem.W.exmOne K (.ref cx.NoAnswer) (.ref cx.NoAnswer) = some true
  exm_NoAnswer_TooLarge : PySem.W.exmOne K (.ref cx.NoAnswer) (.ref cx.TooLarge) = some false
  exm_NoAnswer_NotPolygon : PySem.W.exmOne K (.ref cx.NoAnswer) (.ref cx.NotPolygon) = some false
  exm_TooLarge_NotOrders : PySem.W.exmOne K (.ref cx.TooLarge) (.ref cx.NotOrders) = some false
  exm_TooLarge_NotWord : PySem.W.exmOne K (.ref cx.TooLarge) (.ref cx.NotWord) = some false
  exm_TooLarge_NoAnswer : PySem.W.exmOne K (.ref cx.TooLarge) (.ref cx.NoAnswer) = some false
  exm_TooLarge_TooLarge : PySem.W.exmOne K (.ref cx.TooLarge) (.ref cx.TooLarge) = some true
  exm_TooLarge_NotPolygon : PySem.W.exmOne K (.ref cx.TooLarge) (.ref cx.NotPolygon) = some false
  exm_NotPolygon_NotOrders : PySem.W.exmOne K (.ref cx.NotPolygon) (.ref cx.NotOrders) = some false
  exm_NotPolygon_NotWord : PySem.W.exmOne K (.ref cx.NotPolygon) (.ref cx.NotWord) = some false
  exm_NotPolygon_NoAnswer : PySem.W.exmOne K (.ref cx.NotPolygon) (.ref cx.NoAnswer) = some false
  exm_NotPolygon_TooLarge : PySem.W.exmOne K (.ref cx.NotPolygon) (.ref cx.TooLarge) = some false
  exm_NotPolygon_NotPolygon : PySem.W.exmOne K (.ref cx.NotPolygon) (.ref cx.NotPolygon) = some true
  kit_TooLarge_NotPolygon : PySem.W.kitOne K (.ref cx.TooLarge) (.ref cx.NotPolygon) = some false
theorem mk_txt {K : PySem.W.Frag} {mg : Str → Option Value} {y0 : Addr} {y1 : Addr} {y2 : Addr} {y3 : Addr} {y4 : Addr} {y5 : Addr} {y6 : Addr} {y7 : Addr} {y8 : Tok} {y9 : Tok} {y10 : Tok} {y11 : Tok} {y12 : Tok} {y13 : Tok} {y14 : Tok} {y15 : Tok} (T : Txt K mg ⟨y0, y1, y2, y3, y4, y5, y6, y7, y8, y9, y10, y11, y12, y13, y14, y15⟩) : ∃ cx : Xs, Txt K mg cx := ⟨_, T⟩
section
variable {P : Program} {w : World} {K : PySem.W.Frag} {mg : Str → Option Value} {base : Heap} {cx : Xs}
/-- what the orders of a floor are -/
def okOrder (n : Int) : Bool := decide (n = 0) || (decide (2 ≤ n) && decide (n ≤ 12))
def okOrders (ns : List Int) : Bool := decide (ns.length = 3) && ns.all okOrder
theorem tyx_tup {H : Hp} {a : Addr} {xs : List V} (h : SqT K H a xs) : TyX K H (.ref a) (.type "tuple") := by
  rcases h with (h | ⟨o, h⟩) | ⟨o, its, n, hk, hc, _⟩
  · exact .base (.tup h)
  · exact .fTuple h
  · exact .kTuple hk hc
def spIsOrder : Sp := fun vs H Q _ => ∃ n : Int, vs = [.int n] ∧ Q (.bl (okOrder n)) H
theorem ok_is_order (T : Txt K mg cx) : FK.Has P w K mg base CX0 1 "is_order" ["order"] spIsOrder := by
  refine T.d_is_order.ok sc_is_order (fun vs H Q E h => ?_) (fun f cdv A outer s H vs Q E hr h => ?_)
  · obtain ⟨n, rfl, _⟩ := h
    rfl
  · obtain ⟨n, rfl, q⟩ := h
    refine ⟨_, (pss_cons (ps_if (PW.pt (pw_or (pt_val (pe_callB call_isi (by rfl) T.n_isinstance (by decide +kernel) (pa_cons (pv 0) (pa_cons (pe_bltn (v := .ty "bool") (by rfl) T.n_bool (by decide +kernel) rfl) pa_nil)))) (pw_or1 (pt_not (pt_val (pe_callB call_isi (by rfl) T.n_isinstance (by decide +kernel) (pa_cons (pv 0) (pa_cons (pe_bltn (v := .ty "int") (by rfl) T.n_int (by decide +kernel) rfl) pa_nil)))))))) (pss_one (ps_ret pe_bl)) pss_nil)
  (pss_one (ps_ret (pe_or (pe_cmpR op_eq (pv 0) pe_int (nomark _)) (pe_one (pe_chain op_le op_le pe_int (pv 0) pe_int)))))), ?_⟩
    simp only [tSeq, tIfS, tOr, tAnd, tB, tTest, tCB, tCons, tVar, tC, tNil, tNot, tNotV, tRet, tRetN, tNext, tBreak, tOrV, tAndV, tOp, tUn, rEq, rNe, tChain, rI0, rI, rU, tAsg, gName, tDrop, tAug, ipI, tIf, tCall, tCallS, tLst, tTup, tBM, tBM0, rAppend, rExtend, rPop, rReverse, tyV, rIxL, rIxT, rIxS, rIsB, rNotB, L2.start, List.map_cons, List.map_nil, List.length_cons, List.length_nil, List.replicate, List.cons_append, List.nil_append, List.append_nil, List.getElem?_cons_zero, List.getElem?_cons_succ, List.set_cons_zero, List.set_cons_succ, Nat.reduceAdd, Nat.reduceSub, Option.some.injEq, exists_eq_left', exists_eq_left, V.int.injEq, V.bl.injEq, V.str.injEq, V.ref.injEq, List.cons.injEq, and_true, true_and, and_assoc, reduceCtorEq, false_and, exists_false, or_false, false_or, exists_and_left, exists_const, scal, Int.reduceLT, Int.reduceLE, Int.reduceSub, Int.reduceAdd, Int.reduceNeg, if_true, if_false]
    refine ⟨_, _, _, _, false, rfl, .ty "bool", .base (.int n), kit_ty (by decide +kernel), _, rfl, iteF ?_⟩
    refine ⟨_, _, _, _, true, rfl, .ty "int", .base (.int n), kit_ty (by decide +kernel), _, rfl, iteF ?_⟩
    unfold okOrder at q
    refine ite2 (fun c => ?_) (fun c => ?_)
    · rw [c] at q
      exact q
    · rw [eq_false_of_ne_true c] at q
      refine ite2 (fun c2 => ?_) (fun c2 => ?_)
      · rw [c2] at q
        exact q
      · rw [eq_false_of_ne_true c2] at q
        exact q
def spIsOrders (K : PySem.W.Frag) : Sp := fun vs H Q _ => ∃ (a : Addr) (ns : List Int), vs = [.ref a] ∧ SqT K H a (ns.map V.int) ∧ ∀ H', Same H H' → Q (.bl (okOrders ns)) H'
theorem ok_is_orders (T : Txt K mg cx) : FK.Has P w K mg base CX0 2 "is_orders" ["orders"] (spIsOrders K) := by
  have H_is_order := ok_is_order (P := P) (w := w) (base := base) T
  refine T.d_is_orders.ok sc_is_orders (fun vs H Q E h => ?_) (fun f cdv A outer s H vs Q E hr h => ?_)
  · obtain ⟨a, ns, rfl, _⟩ := h
    rfl
  · obtain ⟨a, ns, rfl, hS, q⟩ := h
    refine ⟨_, (pss_cons (ps_if (PW.pt (pw_or (pt_not (pt_val (pe_callB call_isi (by rfl) T.n_isinstance (by decide +kernel) (pa_cons (pv 0) (pa_cons (pe_bltn (v := .ty "tuple") (by rfl) T.n_tuple (by decide +kernel) rfl) pa_nil))))) (pw_or1 (pt_cmpR op_ne (pe_callB call_len_seq (by rfl) T.n_len PySem.boot_len (pa_cons (pv 0) pa_nil)) pe_int (nomark _))))) (pss_one (ps_ret pe_bl)) pss_nil)
  (pss_one (ps_ret (pe_callB (cr_all rfl) (by rfl) T.n_all (by decide +kernel) (pa_cons (pe_lc (own := [("order", 1)]) (g := gName 1) (tt := tYes) rfl sc_is_orders.nd (pi_tup (pv 0)) (blkOk_by (own := [("order", 1)]) (N := ["orders", "order"]) (sc := defScope s_is_orders) (by decide +kernel)) (fun _ _ _ _ _ => (pg_name (i := 1) sc_is_orders.nd rfl (Or.inl rfl))) (fun _ _ _ _ _ => pts_nil) (fun _ _ _ _ _ => (FK.pe_h (E := E0) H_is_order (hr.mono (by decide)) pass0 (pa_cons (pv 1) pa_nil)))) pa_nil))))), ?_⟩
    simp only [tSeq, tIfS, tOr, tAnd, tB, tTest, tCB, tCons, tVar, tC, tNil, tNot, tNotV, tRet, tRetN, tNext, tBreak, tOrV, tAndV, tOp, tUn, rEq, rNe, tChain, rI0, rI, rU, tAsg, gName, tDrop, tAug, ipI, tIf, tCall, tCallS, tLst, tTup, tBM, tBM0, rAppend, rExtend, rPop, rReverse, tyV, rIxL, rIxT, rIxS, rIsB, rNotB, L2.start, List.map_cons, List.map_nil, List.length_cons, List.length_nil, List.replicate, List.cons_append, List.nil_append, List.append_nil, List.getElem?_cons_zero, List.getElem?_cons_succ, List.set_cons_zero, List.set_cons_succ, Nat.reduceAdd, Nat.reduceSub, Option.some.injEq, exists_eq_left', exists_eq_left, V.int.injEq, V.bl.injEq, V.str.injEq, V.ref.injEq, List.cons.injEq, and_true, true_and, and_assoc, reduceCtorEq, false_and, exists_false, or_false, false_or, exists_and_left, exists_const, scal, Int.reduceLT, Int.reduceLE, Int.reduceSub, Int.reduceAdd, Int.reduceNeg, if_true, if_false]
    refine ⟨_, _, _, _, true, rfl, .ty "tuple", tyx_tup hS, kit_ty (by decide +kernel), _, rfl, iteF ?_⟩
    refine ⟨_, .inr hS, ite2 (fun c => ?_) (fun c => ?_)⟩
    · have e : okOrders ns = false := by
        unfold okOrders
        rw [List.length_map] at c
        rw [decide_eq_false (fun z => by rw [z] at c; exact absurd c (by decide)), Bool.false_and]
      have q2 := q H (Same.refl H)
      rw [e] at q2
      exact q2
    · have e : ns.length = 3 := by
        rw [List.length_map] at c
        have c2 : ((ns.length : Nat) : Int) = 3 := by
          by_cases z : ((ns.length : Nat) : Int) = 3
          · exact z
          · exact absurd (by rw [decide_eq_false z]; rfl) c
        omega
      refine FK.rd_lc_pure (J := Itt K a) (H1 := H) ((ns.map okOrder).map V.bl) (fun R r => ⟨_, rfl, a, rfl, ⟨_, hS⟩, r⟩)
        (by have w := walk_tup (K := K) (a := a) (xs := ns.map V.int); rw [List.length_map] at w; rw [List.length_map, List.length_map]; exact w)
        (fun D o hD => FK.Same.tupS (FK.same_new hD) hS) (by rw [List.length_map, List.length_map, e]; decide) (fun _ => rfl) ?_ ?_ (fun _ _ _ _ (z : _ ∧ _) => z.1)
      · rintro D j x z H' H'' R hD hz rfl ⟨rfl, hx⟩ go
        rw [List.getElem?_map] at hx hz
        rw [List.getElem?_map] at hz
        cases en : ns[j]? with
        | none => rw [en] at hx; cases hx
        | some n =>
          rw [en] at hx hz
          cases hx
          cases hz
          simp only [tSeq, tIfS, tOr, tAnd, tB, tTest, tCB, tCons, tVar, tC, tNil, tNot, tNotV, tRet, tRetN, tNext, tBreak, tOrV, tAndV, tOp, tUn, rEq, rNe, tChain, rI0, rI, rU, tAsg, gName, tDrop, tAug, ipI, tIf, tCall, tCallS, tLst, tTup, tBM, tBM0, rAppend, rExtend, rPop, rReverse, tyV, rIxL, rIxT, rIxS, rIsB, rNotB, L2.start, List.map_cons, List.map_nil, List.length_cons, List.length_nil, List.replicate, List.cons_append, List.nil_append, List.append_nil, List.getElem?_cons_zero, List.getElem?_cons_succ, List.set_cons_zero, List.set_cons_succ, Nat.reduceAdd, Nat.reduceSub, Option.some.injEq, exists_eq_left', exists_eq_left, V.int.injEq, V.bl.injEq, V.str.injEq, V.ref.injEq, List.cons.injEq, and_true, true_and, and_assoc, reduceCtorEq, false_and, exists_false, or_false, false_or, exists_and_left, exists_const, scal, Int.reduceLT, Int.reduceLE, Int.reduceSub, Int.reduceAdd, Int.reduceNeg, if_true, if_false, wipe]
          exact ⟨n, rfl, go⟩
      · intro D hD
        refine ⟨D, ns.map okOrder, rfl, SqL.of upd_same, ?_⟩
        have e2 : okOrders ns = (ns.map okOrder).all id := by
          unfold okOrders
          rw [e, List.all_map]
          rfl
        rw [← e2]
        exact q _ (FK.same_new hD)
def spCheckOrders (K : PySem.W.Frag) (C : Addr) : Sp := fun vs H Q E => ∃ (a : Addr) (ns : List Int), vs = [.ref a] ∧ SqT K H a (ns.map V.int) ∧ (okOrders ns = false → ∀ H', Same H H' → E (.ref C) none H') ∧ (okOrders ns = true → ∀ H', Same H H' → Q .non H')
theorem ok_check_orders (T : Txt K mg cx) : FK.Has P w K mg base (L2.CX P w) 4 "check_orders" ["orders"] (spCheckOrders K cx.NotOrders) := by
  have H_is_orders := ok_is_orders (P := P) (w := w) (base := base) T
  refine T.d_check_orders.okX sc_check_orders (fun vs H Q E h => ?_) (fun f cdv A outer s H vs Q E hr h => ?_)
  · obtain ⟨a, ns, rfl, _⟩ := h
    rfl
  · obtain ⟨a, ns, rfl, hS, qE, q⟩ := h
    refine ⟨_, (pss_one (ps_if (pt_not (pt_val (FK.pe_h (E := E0) H_is_orders (hr.mono (by decide)) pass0 (pa_cons (pv 0) pa_nil)))) (pss_one (ps_raise rfl (takes_of rfl rfl rfl rfl) (pmk_own PySem.F.excBase_ValueError T.x_NotOrders.x T.x_NotOrders.g T.x_NotOrders.k (raises_own T.x_NotOrders.b T.x_NotOrders.t) (by exact rfl)))) pss_nil)), ?_⟩
    simp only [tSeq, tIfS, tOr, tAnd, tB, tTest, tCB, tCons, tVar, tC, tNil, tNot, tNotV, tRet, tRetN, tNext, tBreak, tOrV, tAndV, tOp, tUn, rEq, rNe, tChain, rI0, rI, rU, tAsg, gName, tDrop, tAug, ipI, tIf, tCall, tCallS, tLst, tTup, tBM, tBM0, rAppend, rExtend, rPop, rReverse, tyV, rIxL, rIxT, rIxS, rIsB, rNotB, L2.start, List.map_cons, List.map_nil, List.length_cons, List.length_nil, List.replicate, List.cons_append, List.nil_append, List.append_nil, List.getElem?_cons_zero, List.getElem?_cons_succ, List.set_cons_zero, List.set_cons_succ, Nat.reduceAdd, Nat.reduceSub, Option.some.injEq, exists_eq_left', exists_eq_left, V.int.injEq, V.bl.injEq, V.str.injEq, V.ref.injEq, List.cons.injEq, and_true, true_and, and_assoc, reduceCtorEq, false_and, exists_false, or_false, false_or, exists_and_left, exists_const, scal, Int.reduceLT, Int.reduceLE, Int.reduceSub, Int.reduceAdd, Int.reduceNeg, if_true, if_false]
    refine ⟨a, ns, rfl, hS, fun H' hs => ⟨_, rfl, ?_⟩⟩
    cases e : okOrders ns with
    | false => exact iteT (qE e H' hs)
    | true => exact iteF (q e H' hs)
/-- one letter -/
def isLet (x : Str) : Bool := inV (.str x) [.str "0", .str "1", .str "2"]
def spIsLetter : Sp := fun vs H Q _ => ∃ x : Str, vs = [.str x] ∧ ∀ H', Same H H' → Q (.bl (isLet x)) H'
theorem ok_is_letter (T : Txt K mg cx) : FK.Has P w K mg base CX0 1 "is_letter" ["text"] spIsLetter := by
  refine T.d_is_letter.ok sc_is_letter (fun vs H Q E h => ?_) (fun f cdv A outer s H vs Q E hr h => ?_)
  · obtain ⟨n, rfl, _⟩ := h
    rfl
  · obtain ⟨x, rfl, q⟩ := h
    refine ⟨_, (pss_one (ps_ret (pe_cmpR (show OpR _ (compareOp .In) (rIn K false) from op_in_seq) (pv 0) (pe_tup (pa_cons pe_str (pa_cons pe_str (pa_cons pe_str pa_nil)))) (by rfl)))), ?_⟩
    simp only [tSeq, tIfS, tOr, tAnd, tB, tTest, tCB, tCons, tVar, tC, tNil, tNot, tNotV, tRet, tRetN, tNext, tBreak, tOrV, tAndV, tOp, tUn, rEq, rNe, tChain, rI0, rI, rU, tAsg, gName, tDrop, tAug, ipI, tIf, tCall, tCallS, tLst, tTup, tBM, tBM0, rAppend, rExtend, rPop, rReverse, tyV, rIxL, rIxT, rIxS, rIsB, rNotB, L2.start, List.map_cons, List.map_nil, List.length_cons, List.length_nil, List.replicate, List.cons_append, List.nil_append, List.append_nil, List.getElem?_cons_zero, List.getElem?_cons_succ, List.set_cons_zero, List.set_cons_succ, Nat.reduceAdd, Nat.reduceSub, Option.some.injEq, exists_eq_left', exists_eq_left, V.int.injEq, V.bl.injEq, V.str.injEq, V.ref.injEq, List.cons.injEq, and_true, true_and, and_assoc, reduceCtorEq, false_and, exists_false, or_false, false_or, exists_and_left, exists_const, scal, Int.reduceLT, Int.reduceLE, Int.reduceSub, Int.reduceAdd, Int.reduceNeg, if_true, if_false]
    exact ⟨by decide, fun p hp => ⟨p, _, rfl, .inr (SqT.of upd_same), rfl, rfl, q _ (FK.same_new hp)⟩⟩
/-- a word of at most so many letters -/
def okWord (x : Str) (m : Int) : Bool := decide ((x.length : Int) ≤ m) && x.cps.toList.all fun c => isLet ⟨#[c]⟩
def spIsWord : Sp := fun vs H Q _ => ∃ (x : Str) (m : Int), vs = [.str x, .int m] ∧ x.length < sizeLine ∧ ∀ H', Same H H' → Q (.bl (okWord x m)) H'
theorem ok_is_word (T : Txt K mg cx) : FK.Has P w K mg base CX0 2 "is_word" ["text", "most"] spIsWord := by
  have H_is_letter := ok_is_letter (P := P) (w := w) (base := base) T
  refine T.d_is_word.ok sc_is_word (fun vs H Q E h => ?_) (fun f cdv A outer s H vs Q E hr h => ?_)
  · obtain ⟨n, m, rfl, _⟩ := h
    rfl
  · obtain ⟨x, m, rfl, hx, q⟩ := h
    refine ⟨_, (pss_one (ps_ret (pe_and (pe_cmpR op_le (pe_callB call_len_str (by rfl) T.n_len PySem.boot_len (pa_cons (pv 0) pa_nil)) (pv 1) (nomark _)) (pe_one (pe_callB (cr_all rfl) (by rfl) T.n_all (by decide +kernel) (pa_cons (pe_lc (own := [("letter", 2)]) (g := gName 2) (tt := tYes) rfl sc_is_word.nd (pi_str (pv 0)) (blkOk_by (own := [("letter", 2)]) (N := ["text", "most", "letter"]) (sc := defScope s_is_word) (by decide +kernel)) (fun _ _ _ _ _ => (pg_name (i := 2) sc_is_word.nd rfl (Or.inl rfl))) (fun _ _ _ _ _ => pts_nil) (fun _ _ _ _ _ => (FK.pe_h (E := E0) H_is_letter (hr.mono (by decide)) pass0 (pa_cons (pv 2) pa_nil)))) pa_nil)))))), ?_⟩
    simp only [tSeq, tIfS, tOr, tAnd, tB, tTest, tCB, tCons, tVar, tC, tNil, tNot, tNotV, tRet, tRetN, tNext, tBreak, tOrV, tAndV, tOp, tUn, rEq, rNe, tChain, rI0, rI, rU, tAsg, gName, tDrop, tAug, ipI, tIf, tCall, tCallS, tLst, tTup, tBM, tBM0, rAppend, rExtend, rPop, rReverse, tyV, rIxL, rIxT, rIxS, rIsB, rNotB, L2.start, List.map_cons, List.map_nil, List.length_cons, List.length_nil, List.replicate, List.cons_append, List.nil_append, List.append_nil, List.getElem?_cons_zero, List.getElem?_cons_succ, List.set_cons_zero, List.set_cons_succ, Nat.reduceAdd, Nat.reduceSub, Option.some.injEq, exists_eq_left', exists_eq_left, V.int.injEq, V.bl.injEq, V.str.injEq, V.ref.injEq, List.cons.injEq, and_true, true_and, and_assoc, reduceCtorEq, false_and, exists_false, or_false, false_or, exists_and_left, exists_const, scal, Int.reduceLT, Int.reduceLE, Int.reduceSub, Int.reduceAdd, Int.reduceNeg, if_true, if_false]
    refine ⟨Nat.le_of_lt hx, ?_⟩
    unfold okWord at q
    cases e : decide ((x.length : Int) ≤ m) with
    | false =>
      rw [e] at q
      exact iteF (q H (Same.refl H))
    | true =>
      rw [e] at q
      refine iteT ?_
      have hn : ((x.cps.toList.map fun c => isLet ⟨#[c]⟩).map V.bl).length = x.cps.size := by simp
      refine FK.rd_lc_same (J := Its x) (H1 := H) ((x.cps.toList.map fun c => isLet ⟨#[c]⟩).map V.bl) (fun R r => ⟨_, rfl, x, rfl, r⟩) (by rw [hn]; exact walk_str) (fun _ _ => trivial) (by rw [hn]; exact hx) (fun _ => rfl) ?_ ?_ (fun _ _ _ _ (z : _ ∧ _) => by rw [z.1]; exact Same.refl _)
      · rintro j v z H' H'' R hz s1 ⟨rfl, c, hc, rfl⟩ go
        rw [List.getElem?_map, List.getElem?_map, Array.getElem?_toList, hc] at hz
        cases hz
        simp only [tSeq, tIfS, tOr, tAnd, tB, tTest, tCB, tCons, tVar, tC, tNil, tNot, tNotV, tRet, tRetN, tNext, tBreak, tOrV, tAndV, tOp, tUn, rEq, rNe, tChain, rI0, rI, rU, tAsg, gName, tDrop, tAug, ipI, tIf, tCall, tCallS, tLst, tTup, tBM, tBM0, rAppend, rExtend, rPop, rReverse, tyV, rIxL, rIxT, rIxS, rIsB, rNotB, L2.start, List.map_cons, List.map_nil, List.length_cons, List.length_nil, List.replicate, List.cons_append, List.nil_append, List.append_nil, List.getElem?_cons_zero, List.getElem?_cons_succ, List.set_cons_zero, List.set_cons_succ, Nat.reduceAdd, Nat.reduceSub, Option.some.injEq, exists_eq_left', exists_eq_left, V.int.injEq, V.bl.injEq, V.str.injEq, V.ref.injEq, List.cons.injEq, and_true, true_and, and_assoc, reduceCtorEq, false_and, exists_false, or_false, false_or, exists_and_left, exists_const, scal, Int.reduceLT, Int.reduceLE, Int.reduceSub, Int.reduceAdd, Int.reduceNeg, if_true, if_false, wipe]
        exact ⟨_, rfl, fun H4 s4 => go H4 s4⟩
      · intro D H' hD s1 hD2
        refine ⟨D, _, rfl, SqL.of hD2, ?_⟩
        have q2 := q H' s1
        rw [show (true && x.cps.toList.all fun c => isLet ⟨#[c]⟩) = (x.cps.toList.map fun c => isLet ⟨#[c]⟩).all id by rw [List.all_map]; rfl] at q2
        exact q2

def spCheckLong (C : Addr) : Sp := fun vs H Q E => ∃ (x : Str) (m : Int), vs = [.str x, .int m] ∧ x.length < sizeLine ∧ (m = 60 ∨ m = 200 ∨ m = 400) ∧ (okWord x m = false → ∀ H', Same H H' → E (.ref C) none H') ∧ (okWord x m = true → ∀ H', Same H H' → Q .non H')
theorem ok_check_long_word (T : Txt K mg cx) : FK.Has P w K mg base (L2.CX P w) 4 "check_long_word" ["word", "most"] (spCheckLong cx.NotWord) := by
  have H_is_word := ok_is_word (P := P) (w := w) (base := base) T
  refine T.d_check_long_word.okX sc_check_long_word (fun vs H Q E h => ?_) (fun f cdv A outer s H vs Q E hr h => ?_)
  · obtain ⟨x, m, rfl, _⟩ := h
    rfl
  · obtain ⟨x, m, rfl, hx, hm, qE, q⟩ := h
    refine ⟨_, (pss_one (ps_if (pt_not (pt_val (FK.pe_h (E := E0) H_is_word (hr.mono (by decide)) pass0 (pa_cons (pv 0) (pa_cons (pv 1) pa_nil))))) (pss_one (ps_raise rfl (takes_of rfl rfl rfl rfl) (SkE.pmk_own1 PySem.F.excBase_ValueError T.x_NotWord.x T.x_NotWord.g T.x_NotWord.k (raises_own T.x_NotWord.b T.x_NotWord.t) rfl (pe_joined (PJ.cons pe_str (PJ.cons (pe_fmt (pv 1)) (PJ.cons pe_str PJ.nil))))))) pss_nil)), ?_⟩
    simp only [tSeq, tIfS, tOr, tAnd, tB, tTest, tCB, tCons, tVar, tC, tNil, tNot, tNotV, tRet, tRetN, tNext, tBreak, tOrV, tAndV, tOp, tUn, rEq, rNe, tChain, rI0, rI, rU, tAsg, gName, tDrop, tAug, ipI, tIf, tCall, tCallS, tLst, tTup, tBM, tBM0, rAppend, rExtend, rPop, rReverse, tyV, rIxL, rIxT, rIxS, rIsB, rNotB, L2.start, List.map_cons, List.map_nil, List.length_cons, List.length_nil, List.replicate, List.cons_append, List.nil_append, List.append_nil, List.getElem?_cons_zero, List.getElem?_cons_succ, List.set_cons_zero, List.set_cons_succ, Nat.reduceAdd, Nat.reduceSub, Option.some.injEq, exists_eq_left', exists_eq_left, V.int.injEq, V.bl.injEq, V.str.injEq, V.ref.injEq, List.cons.injEq, and_true, true_and, and_assoc, reduceCtorEq, false_and, exists_false, or_false, false_or, exists_and_left, exists_const, scal, Int.reduceLT, Int.reduceLE, Int.reduceSub, Int.reduceAdd, Int.reduceNeg, if_true, if_false, tJs, tFmt]
    refine ⟨x, m, rfl, hx, fun H' hs => ⟨_, rfl, ?_⟩⟩
    cases e : okWord x m with
    | false =>
      refine iteT ?_
      rcases hm with rfl | rfl | rfl <;> exact ⟨by decide +kernel, by decide +kernel, by decide +kernel, by decide +kernel, qE e H' hs⟩
    | true => exact iteF (q e H' hs)
def spCheckWord (C : Addr) : Sp := fun vs H Q E => ∃ x : Str, vs = [.str x] ∧ x.length < sizeLine ∧ (okWord x 60 = false → ∀ H', Same H H' → E (.ref C) none H') ∧ (okWord x 60 = true → ∀ H', Same H H' → Q .non H')
theorem ok_check_word (T : Txt K mg cx) : FK.Has P w K mg base (L2.CX P w) 5 "check_word" ["word"] (spCheckWord cx.NotWord) := by
  have H_check_long_word := ok_check_long_word (P := P) (w := w) (base := base) T
  refine T.d_check_word.okX sc_check_word (fun vs H Q E h => ?_) (fun f cdv A outer s H vs Q E hr h => ?_)
  · obtain ⟨x, rfl, _⟩ := h
    rfl
  · obtain ⟨x, rfl, hx, qE, q⟩ := h
    refine ⟨_, (pss_one (ps_expr (FK.pe_h (E := E) H_check_long_word (hr.mono (by decide)) (passes_call (takes_of rfl rfl rfl rfl) (fun _ _ _ _ h => h)) (pa_cons (pv 0) (pa_cons (pe_glob (v := .int 60) rfl T.c_MOST_LETTERS ⟨_, rfl⟩) pa_nil))))), ?_⟩
    simp only [tSeq, tIfS, tOr, tAnd, tB, tTest, tCB, tCons, tVar, tC, tNil, tNot, tNotV, tRet, tRetN, tNext, tBreak, tOrV, tAndV, tOp, tUn, rEq, rNe, tChain, rI0, rI, rU, tAsg, gName, tDrop, tAug, ipI, tIf, tCall, tCallS, tLst, tTup, tBM, tBM0, rAppend, rExtend, rPop, rReverse, tyV, rIxL, rIxT, rIxS, rIsB, rNotB, L2.start, List.map_cons, List.map_nil, List.length_cons, List.length_nil, List.replicate, List.cons_append, List.nil_append, List.append_nil, List.getElem?_cons_zero, List.getElem?_cons_succ, List.set_cons_zero, List.set_cons_succ, Nat.reduceAdd, Nat.reduceSub, Option.some.injEq, exists_eq_left', exists_eq_left, V.int.injEq, V.bl.injEq, V.str.injEq, V.ref.injEq, List.cons.injEq, and_true, true_and, and_assoc, reduceCtorEq, false_and, exists_false, or_false, false_or, exists_and_left, exists_const, scal, Int.reduceLT, Int.reduceLE, Int.reduceSub, Int.reduceAdd, Int.reduceNeg, if_true, if_false]
    exact ⟨x, 60, rfl, hx, .inl rfl, qE, q⟩
theorem len3 {ns : List Int} (h : okOrders ns = true) : ∃ m0 m1 m2, ns = [m0, m1, m2] := by
  unfold okOrders at h
  rw [Bool.and_eq_true] at h
  have e := of_decide_eq_true h.1
  match ns, e with
  | [m0, m1, m2], _ => exact ⟨_, _, _, rfl⟩
theorem okOrder_bound {n : Int} (h : okOrder n = true) : 0 ≤ n ∧ n ≤ 12 := by
  unfold okOrder at h
  simp only [Bool.or_eq_true, Bool.and_eq_true, decide_eq_true_eq] at h
  omega

theorem atI_mem {cs : List V} {r : Int} (h0 : 0 ≤ r) (h1 : r < cs.length) : ∃ v, atI cs r = some v ∧ v ∈ cs := by
  obtain ⟨k, rfl⟩ := Int.eq_ofNat_of_zero_le h0
  have hk : k < cs.length := by omega
  exact ⟨cs[k], atI_nat (List.getElem?_eq_getElem hk), List.getElem_mem hk⟩
theorem joinL_nil : ∀ ps : List (List Nat), TL.joinL [] ps = ps.flatten
  | [] => rfl
  | [p] => by simp [TL.joinL]
  | p :: q :: r => by
    show p ++ ([] ++ TL.joinL [] (q :: r)) = _
    rw [joinL_nil (q :: r)]
    simp
theorem flat_signs : ∀ cs : List Nat, (cs.map (TL.tl ∘ fun c => (⟨#[c]⟩ : Str))).flatten = cs
  | [] => rfl
  | c :: cs => by
    show [c] ++ (cs.map (TL.tl ∘ fun c => (⟨#[c]⟩ : Str))).flatten = c :: cs
    rw [flat_signs cs]
    rfl
theorem join_signs (cs : List Nat) : Txt.join "" (cs.map fun c => (⟨#[c]⟩ : Str)) = ⟨cs.toArray⟩ := by
  rw [TL.join_eq]
  have h := TL.tl_join "" (cs.map fun c => (⟨#[c]⟩ : Str))
  rw [show TL.tl ("" : Str) = [] from rfl, joinL_nil, List.map_map, flat_signs] at h
  generalize Str.join "" (cs.map fun c => (⟨#[c]⟩ : Str)) = z at h
  obtain ⟨a⟩ := z
  have h2 : a.toList = cs := h
  rw [← h2, Array.toArray_toList]
theorem sum_ones : ∀ cs : List Nat, (cs.map fun _ => 1).sum = cs.length
  | [] => rfl
  | c :: cs => by
    show 1 + (cs.map fun _ => 1).sum = cs.length + 1
    rw [sum_ones cs]
    omega

def spCell (K : PySem.W.Frag) : Sp := fun vs H Q _ => ∃ (a : Addr) (ns : List Int) (k : Nat), vs = [.ref a, .int (k : Int)] ∧ SqL K H a (ns.map V.int) ∧ ∀ i, Q (.int i) H
theorem ok_law_cell (T : Txt K mg cx) : FK.Has P w K mg base CX0 1 "_law_cell" ["script", "k"] (spCell K) := by
  refine T.d_law_cell.ok sc_law_cell (fun vs H Q E h => ?_) (fun f cdv A outer s H vs Q E hr h => ?_)
  · obtain ⟨a, ns, k, rfl, _⟩ := h
    rfl
  · obtain ⟨a, ns, k, rfl, hS, q⟩ := h
    refine ⟨_, (pss_cons (ps_if (pt_cmpR op_lt (pv 1) (pe_callB call_len_seq (by rfl) T.n_len PySem.boot_len (pa_cons (pv 0) pa_nil)) (nomark _)) (pss_one (ps_ret (pe_ix (r := rIxL K) ix_list (pv 0) (pv 1) (fun _ _ => rfl)))) pss_nil)
  (pss_one (ps_ret pe_int))), ?_⟩
    simp only [tSeq, tIfS, tOr, tAnd, tB, tTest, tCB, tCons, tVar, tC, tNil, tNot, tNotV, tRet, tRetN, tNext, tBreak, tOrV, tAndV, tOp, tUn, rEq, rNe, tChain, rI0, rI, rU, tAsg, gName, tDrop, tAug, ipI, tIf, tCall, tCallS, tLst, tTup, tBM, tBM0, rAppend, rExtend, rPop, rReverse, tyV, rIxL, rIxT, rIxS, rIsB, rNotB, L2.start, List.map_cons, List.map_nil, List.length_cons, List.length_nil, List.replicate, List.cons_append, List.nil_append, List.append_nil, List.getElem?_cons_zero, List.getElem?_cons_succ, List.set_cons_zero, List.set_cons_succ, Nat.reduceAdd, Nat.reduceSub, Option.some.injEq, exists_eq_left', exists_eq_left, V.int.injEq, V.bl.injEq, V.str.injEq, V.ref.injEq, List.cons.injEq, and_true, true_and, and_assoc, reduceCtorEq, false_and, exists_false, or_false, false_or, exists_and_left, exists_const, scal, Int.reduceLT, Int.reduceLE, Int.reduceSub, Int.reduceAdd, Int.reduceNeg, if_true, if_false]
    refine ⟨_, .inl hS, ite2 (fun c => ?_) (fun c => q 0)⟩
    have hk : k < ns.length := by
      have c2 := of_decide_eq_true c
      rw [List.length_map] at c2
      omega
    exact ⟨_, hS, _, atI_nat (by rw [List.getElem?_map, List.getElem?_eq_getElem hk]; rfl), q _⟩
def spValues : Sp := fun vs H Q _ => ∃ (i : Int) (n : Nat), vs = [.int i, .int (n : Int), .int 997] ∧ n ≤ 60 ∧ ∀ L (zs : List Int) H', H L = none → Same H H' → H' L = some (.lst (zs.map V.int)) → zs.length = n → (∀ z ∈ zs, 0 ≤ z ∧ z < 997) → Q (.ref L) H'
theorem ok_law_values (T : Txt K mg cx) : FK.Has P w K mg base CX0 1 "_law_values" ["cell", "count", "size"] spValues := by
  refine T.d_law_values.ok sc_law_values (fun vs H Q E h => ?_) (fun f cdv A outer s H vs Q E hr h => ?_)
  · obtain ⟨i, n, rfl, _⟩ := h
    rfl
  · obtain ⟨i, n, rfl, hn, q⟩ := h
    refine ⟨_, (pss_cons (ps_set (i := 3) sc_law_values.nd rfl (Or.inl rfl) (by exact (pe_lst pa_nil)))
  (pss_cons (ps_set (i := 4) sc_law_values.nd rfl (Or.inl rfl) (by exact (pv 0)))
  (pss_cons (ps_for PassesOwn.never rfl (pi_range1 rfl T.n_range (pa_cons (pv 1) pa_nil)) (pg_name (i := 5) sc_law_values.nd rfl (Or.inl rfl))
  (pss_one (ps_if (pt_cmpR op_ge (pv 4) (pe_op op_pow pe_int pe_int) (nomark _)) (pss_cons (ps_expr (pe_bm PySem.F.plainAttrs_list PySem.F.slot_list_append PySem.F.type_list_append mt_append (pv 3) (pa_cons (pe_op op_mod (pe_callTy FK.call_intI (by rfl) T.n_int (by decide +kernel) (pa_cons (pv 4) pa_nil)) (pv 2)) pa_nil)))
  (pss_one (ps_set (i := 4) sc_law_values.nd rfl (Or.inl rfl) (by exact (pe_op op_fdivW (pv 4) (pv 2)))))) (pss_cons (ps_set (i := 6) sc_law_values.nd rfl (Or.inl rfl) (by exact (pe_op op_mod (pe_op op_add (pe_op op_add (pe_op op_mulW (pe_op op_mod (pe_callTy FK.call_intI (by rfl) T.n_int (by decide +kernel) (pa_cons (pv 0) pa_nil)) pe_int) pe_int) (pe_op op_mulW (pv 5) pe_int)) pe_int) pe_int)))
  (pss_one (ps_expr (pe_bm PySem.F.plainAttrs_list PySem.F.slot_list_append PySem.F.type_list_append mt_append (pv 3) (pa_cons (pe_op op_mod (pe_op op_mod (pe_op op_mulW (pv 6) pe_int) pe_int) (pv 2)) pa_nil))))))))
  (pss_one (ps_ret (pv 3)))))), ?_⟩
    simp only [tSeq, tIfS, tOr, tAnd, tB, tTest, tCB, tCons, tVar, tC, tNil, tNot, tNotV, tRet, tRetN, tNext, tBreak, tOrV, tAndV, tOp, tUn, rEq, rNe, tChain, rI0, rI, rU, tAsg, gName, tDrop, tAug, ipI, tIf, tCall, tCallS, tLst, tTup, tBM, tBM0, rAppend, rExtend, rPop, rReverse, tyV, rIxL, rIxT, rIxS, rIsB, rNotB, L2.start, List.map_cons, List.map_nil, List.length_cons, List.length_nil, List.replicate, List.cons_append, List.nil_append, List.append_nil, List.getElem?_cons_zero, List.getElem?_cons_succ, List.set_cons_zero, List.set_cons_succ, Nat.reduceAdd, Nat.reduceSub, Option.some.injEq, exists_eq_left', exists_eq_left, V.int.injEq, V.bl.injEq, V.str.injEq, V.ref.injEq, List.cons.injEq, and_true, true_and, and_assoc, reduceCtorEq, false_and, exists_false, or_false, false_or, exists_and_left, exists_const, scal, Int.reduceLT, Int.reduceLE, Int.reduceSub, Int.reduceAdd, Int.reduceNeg, if_true, if_false]
    refine ⟨Nat.zero_le _, fun L hL => ?_⟩
    refine FK.rd_for (J := Itr 0 n) (H1 := upd H L (.lst [])) (fun R r => by simp only [tSeq, tIfS, tOr, tAnd, tB, tTest, tCB, tCons, tVar, tC, tNil, tNot, tNotV, tRet, tRetN, tNext, tBreak, tOrV, tAndV, tOp, tUn, rEq, rNe, tChain, rI0, rI, rU, tAsg, gName, tDrop, tAug, ipI, tIf, tCall, tCallS, tLst, tTup, tBM, tBM0, rAppend, rExtend, rPop, rReverse, tyV, rIxL, rIxT, rIxS, rIsB, rNotB, L2.start, List.map_cons, List.map_nil, List.length_cons, List.length_nil, List.replicate, List.cons_append, List.nil_append, List.append_nil, List.getElem?_cons_zero, List.getElem?_cons_succ, List.set_cons_zero, List.set_cons_succ, Nat.reduceAdd, Nat.reduceSub, Option.some.injEq, exists_eq_left', exists_eq_left, V.int.injEq, V.bl.injEq, V.str.injEq, V.ref.injEq, List.cons.injEq, and_true, true_and, and_assoc, reduceCtorEq, false_and, exists_false, or_false, false_or, exists_and_left, exists_const, scal, Int.reduceLT, Int.reduceLE, Int.reduceSub, Int.reduceAdd, Int.reduceNeg, if_true, if_false, iRng1]; exact ⟨by omega, by omega, r⟩) walk_range
      (fun j σ H' => ∃ (zs : List Int) (rest : Int) (v5 v6 : Option V), σ = [some (.int i), some (.int (n : Int)), some (.int 997), some (.ref L), some (.int rest), v5, v6] ∧ H' L = some (.lst (zs.map V.int)) ∧ zs.length = j ∧ (∀ z ∈ zs, 0 ≤ z ∧ z < 997) ∧ Same H H')
      ⟨[], i, none, none, rfl, upd_same, rfl, (fun _ h => nomatch h), FK.same_new hL⟩ (fun _ _ _ _ _ => trivial) ?_ ?_
    · rintro j x σ H1 H2 hj ⟨zs, rest, v5, v6, rfl, eL, lz, hz, s1⟩ ⟨rfl, rfl⟩
      simp only [tSeq, tIfS, tOr, tAnd, tB, tTest, tCB, tCons, tVar, tC, tNil, tNot, tNotV, tRet, tRetN, tNext, tBreak, tOrV, tAndV, tOp, tUn, rEq, rNe, tChain, rI0, rI, rU, tAsg, gName, tDrop, tAug, ipI, tIf, tCall, tCallS, tLst, tTup, tBM, tBM0, rAppend, rExtend, rPop, rReverse, tyV, rIxL, rIxT, rIxS, rIsB, rNotB, L2.start, List.map_cons, List.map_nil, List.length_cons, List.length_nil, List.replicate, List.cons_append, List.nil_append, List.append_nil, List.getElem?_cons_zero, List.getElem?_cons_succ, List.set_cons_zero, List.set_cons_succ, Nat.reduceAdd, Nat.reduceSub, Option.some.injEq, exists_eq_left', exists_eq_left, V.int.injEq, V.bl.injEq, V.str.injEq, V.ref.injEq, List.cons.injEq, and_true, true_and, and_assoc, reduceCtorEq, false_and, exists_false, or_false, false_or, exists_and_left, exists_const, scal, Int.reduceLT, Int.reduceLE, Int.reduceSub, Int.reduceAdd, Int.reduceNeg, if_true, if_false]
      have e1 : ∀ y : Int, 0 ≤ y % 997 ∧ y % 997 < 997 := fun y => ⟨Int.emod_nonneg _ (by decide), Int.emod_lt_of_pos _ (by decide)⟩
      have le : (zs.map V.int).length < sizeLine := by
        rw [List.length_map, lz]
        exact Nat.lt_of_lt_of_le (show j < 1000 by omega) (by decide)
      have st : ∀ y : Int, 0 ≤ y ∧ y < 997 → ∃ zs2 : List Int, upd H2 L (.lst (zs.map V.int ++ [.int y])) L = some (.lst (zs2.map V.int)) ∧ zs2.length = j + 1 ∧ (∀ z ∈ zs2, 0 ≤ z ∧ z < 997) ∧ Same H (upd H2 L (.lst (zs.map V.int ++ [.int y]))) := fun y hy => by
        refine ⟨zs ++ [y], by rw [upd_same, List.map_append]; rfl, by simp [lz], fun z hz2 => ?_, fun b o e => ?_⟩
        · rcases List.mem_append.mp hz2 with h | h
          · exact hz z h
          · rw [List.mem_singleton.mp h]; exact hy
        · rw [upd_ne (fun z => by rw [z, hL] at e; cases e)]
          exact s1 b o e
      have cm : ∀ x y : Int, 0 ≤ x → x < 2147483648 → 0 ≤ y → y < 2147483648 → CMulW x y := fun x y h1 h2 h3 h4 => by
        have lg : ∀ z : Int, 0 ≤ z → z < 2147483648 → z.natAbs.log2 < 32 := fun z z1 z2 => by
          by_cases c : z.natAbs = 0
          · rw [c]; decide
          · exact (Nat.log2_lt c).2 (by omega)
        have a1 := lg x h1 h2
        have a2 := lg y h3 h4
        show _ + _ < 1000000
        omega
      have m0 : 0 ≤ i % 2147483647 ∧ i % 2147483647 < 2147483647 := ⟨Int.emod_nonneg _ (by decide), Int.emod_lt_of_pos _ (by decide)⟩
      refine ⟨⟨by decide, by decide, by decide⟩, ite2 (fun c => ?_) (fun c => ?_)⟩
      · obtain ⟨zs2, a1, a2, a3, a4⟩ := st _ (e1 rest)
        exact ⟨.inl ⟨_, SqL.of eL⟩, _, eL, le, ⟨by decide, by decide⟩, zs2, a1, a2, a3, a4⟩
      · have m1 : ∀ y : Int, 0 ≤ y % 2147483647 ∧ y % 2147483647 < 2147483647 := fun y => ⟨Int.emod_nonneg _ (by decide), Int.emod_lt_of_pos _ (by decide)⟩
        obtain ⟨zs2, a1, a2, a3, a4⟩ := st _ (e1 ((((i % 2147483647 * 48271 + (0 + (j : Int)) * 69621 + 7) % 2147483647) * 16807) % 2147483647))
        have m2 := m1 (i % 2147483647 * 48271 + (0 + (j : Int)) * 69621 + 7)
        refine ⟨cm _ _ m0.1 (by omega) (by decide) (by decide), cm _ _ (by omega) (by omega) (by decide) (by decide), .inl ⟨_, SqL.of eL⟩, cm _ _ m2.1 (by omega) (by decide) (by decide), _, eL, le, zs2, a1, a2, a3, a4⟩
    · rintro σ H1 ⟨zs, rest, v5, v6, rfl, eL, lz, hz, s1⟩
      simp only [tSeq, tIfS, tOr, tAnd, tB, tTest, tCB, tCons, tVar, tC, tNil, tNot, tNotV, tRet, tRetN, tNext, tBreak, tOrV, tAndV, tOp, tUn, rEq, rNe, tChain, rI0, rI, rU, tAsg, gName, tDrop, tAug, ipI, tIf, tCall, tCallS, tLst, tTup, tBM, tBM0, rAppend, rExtend, rPop, rReverse, tyV, rIxL, rIxT, rIxS, rIsB, rNotB, L2.start, List.map_cons, List.map_nil, List.length_cons, List.length_nil, List.replicate, List.cons_append, List.nil_append, List.append_nil, List.getElem?_cons_zero, List.getElem?_cons_succ, List.set_cons_zero, List.set_cons_succ, Nat.reduceAdd, Nat.reduceSub, Option.some.injEq, exists_eq_left', exists_eq_left, V.int.injEq, V.bl.injEq, V.str.injEq, V.ref.injEq, List.cons.injEq, and_true, true_and, and_assoc, reduceCtorEq, false_and, exists_false, or_false, false_or, exists_and_left, exists_const, scal, Int.reduceLT, Int.reduceLE, Int.reduceSub, Int.reduceAdd, Int.reduceNeg, if_true, if_false]
      exact q L zs H1 hL s1 eL lz hz

end
end K32

namespace K32
open PySem PySem.Spec PyProof.Rows L2 Cox
section
variable {P : Program} {w : World} {K : PySem.W.Frag} {mg : Str → Option Value} {base : Heap} {cx : Xs}
theorem back {H H' : Hp} {p : Addr} (s : Same H H') (h : H' p = none) : H p = none := by
  cases e : H p with
  | none => rfl
  | some o => rw [s p o e] at h; cases h
/-- a while loop by an invariant with its measure -/
theorem rd_while {c : TT} {tb : TS} {D : Ends} {σ : L2.St} {H : Hp} (Pv : Nat → L2.St → Hp → Prop) (m : Nat) (h0 : Pv m σ H)
    (hs : ∀ m σ H, Pv m σ H → c σ H fun b H1 => if b = true then tb { D with nx := fun σ' H' => ∃ m', m' < m ∧ Pv m' σ' H', ct := fun σ' H' => ∃ m', m' < m ∧ Pv m' σ' H', bk := D.nx } σ H1 else D.nx σ H1)
    (mono : ∀ σ H Q Q', (∀ b H1, Q b H1 → Q' b H1) → c σ H Q → c σ H Q') : tWhile c tb D σ H := by
  refine ⟨Pv, ⟨m, h0⟩, fun m σ H p => mono σ H _ _ (fun b H1 q => ?_) (hs m σ H p)⟩
  cases b with
  | true => exact iteT ⟨_, fun _ _ z => z, by simpa using q⟩
  | false => simpa using q
theorem lt_shift {x y : Int} {a b : Nat} (ha : x.natAbs < 2 ^ a) (hb : y.natAbs < 2 ^ b) (h : a + b ≤ 1000000) (a0 : 0 < a) (b0 : 0 < b) : CMulW x y := wide_mul ha hb a0 b0 h
theorem cshl {x : Int} {k bits : Nat} (h : x.natAbs < 2 ^ k) (h0 : 0 < k) (hk : k + bits ≤ 2 ^ 27) : CShl x (bits : Int) := by
  refine ⟨by omega, ?_⟩
  have e : Builtin.Int.intBits x ≤ k := by
    unfold Builtin.Int.intBits
    split
    · omega
    · have := PySem.Flt.log2_lt_of h0 h
      omega
  have e2 : ((2 : Int) ^ 27) = 134217728 := by decide
  have e3 : (2 ^ 27 : Nat) = 134217728 := by decide
  omega
theorem pow2 (bits : Nat) : ((2 : Int) ^ bits) = ((2 ^ bits : Nat) : Int) := by simp
theorem sine_at {d : Int} {bits k j : Nat} (h : sineOk d bits k = true) (hj : j ≤ k) : (sineF d (2 ^ bits) j).1.natAbs < 2 ^ (bits + 60) ∧ (sineF d (2 ^ bits) j).2.1.natAbs < 2 ^ (bits + 60) ∧ (sineF d (2 ^ bits) j).2.2.1.natAbs < 2 ^ (bits + 60) ∧ (sineF d (2 ^ bits) j).2.2.2.natAbs < 2 ^ (bits + 60) := by
  have := List.all_eq_true.mp h j (List.mem_range.mpr (by omega))
  simp only [Bool.and_eq_true, decide_eq_true_eq] at this
  exact this
def spSine : Sp := fun vs H Q _ => ∃ (n bits : Nat) (d : Int), vs = [.int (n : Int), .int d, .int (bits : Int)] ∧ 1 ≤ n ∧ n ≤ 12 ∧ bits ≤ 9000 ∧ d.natAbs < 2 ^ (bits + 2) ∧ sineOk d bits (n - 1) = true ∧
  ∀ p H', Same H H' → H p = none → H' p = some (.tup [.int (sineF d (2 ^ bits) (n - 1)).2.1, .int (sineF d (2 ^ bits) (n - 1)).2.2.2]) → Q (.ref p) H'
theorem ok_sine_ratio (T : Txt K mg cx) : FK.Has P w K mg base CX0 1 "sine_ratio" ["order", "double", "bits"] spSine := by
  refine T.d_sine_ratio.ok sc_sine_ratio (fun vs H Q E h => ?_) (fun f cdv A outer s H vs Q E hr h => ?_)
  · obtain ⟨n, bits, d, rfl, _⟩ := h
    rfl
  · obtain ⟨n, bits, d, rfl, n1, n2, hb, hd, ok, q⟩ := h
    refine ⟨_, (pss_cons (ps_par (i := 4) (j := 5) (by rfl) sc_sine_ratio.nd rfl rfl (by decide) rfl rfl (pa_cons pe_int (pa_cons (pe_op op_shlN pe_int (pv 2)) pa_nil)) (by first | rfl | kernel_rfl | with_unfolding_all rfl))
  (pss_cons (ps_asg (pe_tup (pa_cons pe_int (pa_cons pe_int pa_nil))) (pg_tup rfl (pgs_cons (pg_name (i := 6) sc_sine_ratio.nd rfl (Or.inl rfl)) (pgs_cons (pg_name (i := 7) sc_sine_ratio.nd rfl (Or.inl rfl)) pgs_nil))))
  (pss_cons (ps_for PassesOwn.never rfl (pi_range1 rfl T.n_range (pa_cons (pe_op op_sub (pv 0) pe_int) pa_nil)) (pg_name (i := 3) sc_sine_ratio.nd rfl (Or.inl rfl))
  (pss_cons (ps_par (i := 6) (j := 7) (by rfl) sc_sine_ratio.nd rfl rfl (by decide) rfl rfl (pa_cons (pv 7) (pa_cons (pe_op op_sub (pe_op op_add (pv 5) (pe_op op_shrN (pe_op op_mulW (pv 1) (pv 7)) (pv 2))) (pv 6)) pa_nil)) (by first | rfl | kernel_rfl | with_unfolding_all rfl))
  (pss_one (ps_par (i := 4) (j := 5) (by rfl) sc_sine_ratio.nd rfl rfl (by decide) rfl rfl (pa_cons (pv 5) (pa_cons (pe_op op_sub (pe_op op_shrN (pe_op op_mulW (pv 1) (pv 5)) (pv 2)) (pv 4)) pa_nil)) (by first | rfl | kernel_rfl | with_unfolding_all rfl)))))
  (pss_one (ps_ret (pe_tup (pa_cons (pv 5) (pa_cons (pv 7) pa_nil)))))))), ?_⟩
    simp only [tSeq, tIfS, tOr, tAnd, tB, tTest, tCB, tCons, tVar, tC, tNil, tNot, tNotV, tRet, tRetN, tNext, tBreak, tOrV, tAndV, tOp, tUn, rEq, rNe, tChain, rI0, rI, rU, tAsg, gName, tDrop, tAug, ipI, tIf, tCall, tCallS, tLst, tTup, tBM, tBM0, rAppend, rExtend, rPop, rReverse, tyV, rIxL, rIxT, rIxS, rIsB, rNotB, L2.start, List.map_cons, List.map_nil, List.length_cons, List.length_nil, List.replicate, List.cons_append, List.nil_append, List.append_nil, List.getElem?_cons_zero, List.getElem?_cons_succ, List.set_cons_zero, List.set_cons_succ, Nat.reduceAdd, Nat.reduceSub, Option.some.injEq, exists_eq_left', exists_eq_left, V.int.injEq, V.bl.injEq, V.str.injEq, V.ref.injEq, List.cons.injEq, and_true, true_and, and_assoc, reduceCtorEq, false_and, exists_false, or_false, false_or, exists_and_left, exists_const, scal, Int.reduceLT, Int.reduceLE, Int.reduceSub, Int.reduceAdd, Int.reduceNeg, if_true, if_false, tPar, iRng1]
    refine ⟨bits, rfl, cshl (x := 1) (k := 1) (by decide) (by omega) (by omega), by decide, fun p0 hp0 => ⟨p0, _, rfl, SqT.of upd_same, rfl, _, _, rfl, _, _, rfl, rfl, ?_⟩⟩
    refine FK.rd_for (J := Itr 0 (n - 1)) (H1 := upd H p0 (.tup [.int 0, .int 0])) (fun R r => by simp only [tSeq, tIfS, tOr, tAnd, tB, tTest, tCB, tCons, tVar, tC, tNil, tNot, tNotV, tRet, tRetN, tNext, tBreak, tOrV, tAndV, tOp, tUn, rEq, rNe, tChain, rI0, rI, rU, tAsg, gName, tDrop, tAug, ipI, tIf, tCall, tCallS, tLst, tTup, tBM, tBM0, rAppend, rExtend, rPop, rReverse, tyV, rIxL, rIxT, rIxS, rIsB, rNotB, L2.start, List.map_cons, List.map_nil, List.length_cons, List.length_nil, List.replicate, List.cons_append, List.nil_append, List.append_nil, List.getElem?_cons_zero, List.getElem?_cons_succ, List.set_cons_zero, List.set_cons_succ, Nat.reduceAdd, Nat.reduceSub, Option.some.injEq, exists_eq_left', exists_eq_left, V.int.injEq, V.bl.injEq, V.str.injEq, V.ref.injEq, List.cons.injEq, and_true, true_and, and_assoc, reduceCtorEq, false_and, exists_false, or_false, false_or, exists_and_left, exists_const, scal, Int.reduceLT, Int.reduceLE, Int.reduceSub, Int.reduceAdd, Int.reduceNeg, if_true, if_false, iRng1]; exact ⟨by omega, by omega, by rw [show ((n : Int) - 1).toNat = n - 1 by omega]; exact r⟩) walk_range
      (fun i σ H' => ∃ v3 : Option V, σ = [some (.int n), some (.int d), some (.int bits), v3, some (.int (sineF d (2 ^ bits) i).1), some (.int (sineF d (2 ^ bits) i).2.1), some (.int (sineF d (2 ^ bits) i).2.2.1), some (.int (sineF d (2 ^ bits) i).2.2.2)] ∧ H' = upd H p0 (.tup [.int 0, .int 0]))
      ⟨none, by rw [show (1 : Int) * 2 ^ bits = 2 ^ bits by omega]; rfl, rfl⟩ (fun _ _ _ _ _ => trivial) ?_ ?_
    · rintro i x σ H1 H2 hi ⟨v3, rfl, rfl⟩ ⟨rfl, rfl⟩
      obtain ⟨s1, s2, s3, s4⟩ := sine_at ok (j := i) (by omega)
      simp only [tSeq, tIfS, tOr, tAnd, tB, tTest, tCB, tCons, tVar, tC, tNil, tNot, tNotV, tRet, tRetN, tNext, tBreak, tOrV, tAndV, tOp, tUn, rEq, rNe, tChain, rI0, rI, rU, tAsg, gName, tDrop, tAug, ipI, tIf, tCall, tCallS, tLst, tTup, tBM, tBM0, rAppend, rExtend, rPop, rReverse, tyV, rIxL, rIxT, rIxS, rIsB, rNotB, L2.start, List.map_cons, List.map_nil, List.length_cons, List.length_nil, List.replicate, List.cons_append, List.nil_append, List.append_nil, List.getElem?_cons_zero, List.getElem?_cons_succ, List.set_cons_zero, List.set_cons_succ, Nat.reduceAdd, Nat.reduceSub, Option.some.injEq, exists_eq_left', exists_eq_left, V.int.injEq, V.bl.injEq, V.str.injEq, V.ref.injEq, List.cons.injEq, and_true, true_and, and_assoc, reduceCtorEq, false_and, exists_false, or_false, false_or, exists_and_left, exists_const, scal, Int.reduceLT, Int.reduceLE, Int.reduceSub, Int.reduceAdd, Int.reduceNeg, if_true, if_false, tPar]
      refine ⟨lt_shift hd s4 (by omega) (by omega) (by omega), bits, rfl, lt_shift hd s2 (by omega) (by omega) (by omega), bits, rfl, ?_⟩
      simp [sineF]
    · rintro σ H1 ⟨v3, rfl, rfl⟩
      simp only [tSeq, tIfS, tOr, tAnd, tB, tTest, tCB, tCons, tVar, tC, tNil, tNot, tNotV, tRet, tRetN, tNext, tBreak, tOrV, tAndV, tOp, tUn, rEq, rNe, tChain, rI0, rI, rU, tAsg, gName, tDrop, tAug, ipI, tIf, tCall, tCallS, tLst, tTup, tBM, tBM0, rAppend, rExtend, rPop, rReverse, tyV, rIxL, rIxT, rIxS, rIsB, rNotB, L2.start, List.map_cons, List.map_nil, List.length_cons, List.length_nil, List.replicate, List.cons_append, List.nil_append, List.append_nil, List.getElem?_cons_zero, List.getElem?_cons_succ, List.set_cons_zero, List.set_cons_succ, Nat.reduceAdd, Nat.reduceSub, Option.some.injEq, exists_eq_left', exists_eq_left, V.int.injEq, V.bl.injEq, V.str.injEq, V.ref.injEq, List.cons.injEq, and_true, true_and, and_assoc, reduceCtorEq, false_and, exists_false, or_false, false_or, exists_and_left, exists_const, scal, Int.reduceLT, Int.reduceLE, Int.reduceSub, Int.reduceAdd, Int.reduceNeg, if_true, if_false]
      exact ⟨by decide, fun p hp => q p _ ((FK.same_new hp0).trans (FK.same_new hp)) (back (FK.same_new hp0) hp) upd_same⟩
def spBend : Sp := fun vs H Q _ => ∃ (n bits : Nat), vs = [.int (n : Int), .int (bits : Int)] ∧ n ≤ 12 ∧ n ≠ 1 ∧ bits ≤ 2500 ∧ (n = 0 ∨ bendOk n bits 40 (2 * 2 ^ bits) = true) ∧
  ∀ H', Same H H' → Q (.int (bendF n bits)) H'
theorem ok_bend_of (T : Txt K mg cx) : FK.Has P w K mg base CX0 2 "bend_of" ["order", "bits"] spBend := by
  have H_sine_ratio := ok_sine_ratio (P := P) (w := w) (base := base) T
  refine T.d_bend_of.ok sc_bend_of (fun vs H Q E h => ?_) (fun f cdv A outer s H vs Q E hr h => ?_)
  · obtain ⟨n, bits, rfl, _⟩ := h
    rfl
  · obtain ⟨n, bits, rfl, hn, n1, hb, ok, q⟩ := h
    refine ⟨_, (pss_cons (ps_set (i := 2) sc_bend_of.nd rfl (Or.inl rfl) (by exact (pe_op op_shlN pe_int (pv 1))))
  (pss_cons (ps_if (pt_cmpR op_eq (pv 0) pe_int (nomark _)) (pss_one (ps_ret (pv 2))) pss_nil)
  (pss_one (ps_while PassesOwn.never (pt_val pe_bl) (pss_cons (ps_asg (FK.pe_h (E := E0) H_sine_ratio (hr.mono (by decide)) pass0 (pa_cons (pv 0) (pa_cons (pv 2) (pa_cons (pv 1) pa_nil)))) (pg_tup rfl (pgs_cons (pg_name (i := 4) sc_bend_of.nd rfl (Or.inl rfl)) (pgs_cons (pg_name (i := 5) sc_bend_of.nd rfl (Or.inl rfl)) pgs_nil))))
  (pss_cons (ps_set (i := 3) sc_bend_of.nd rfl (Or.inl rfl) (by exact (pe_op op_fdivW (pe_op op_shlN (pv 4) (pv 1)) (pv 5))))
  (pss_cons (ps_if (pt_cmpR op_le (pv 3) pe_int (nomark _)) (pss_one (ps_ret (pv 2))) pss_nil)
  (pss_one (ps_set (i := 2) sc_bend_of.nd rfl (Or.inl rfl) (by exact (pe_op op_sub (pv 2) (pv 3)))))))))))), ?_⟩
    simp only [tSeq, tIfS, tOr, tAnd, tB, tTest, tCB, tCons, tVar, tC, tNil, tNot, tNotV, tRet, tRetN, tNext, tBreak, tOrV, tAndV, tOp, tUn, rEq, rNe, tChain, rI0, rI, rU, tAsg, gName, tDrop, tAug, ipI, tIf, tCall, tCallS, tLst, tTup, tBM, tBM0, rAppend, rExtend, rPop, rReverse, tyV, rIxL, rIxT, rIxS, rIsB, rNotB, L2.start, List.map_cons, List.map_nil, List.length_cons, List.length_nil, List.replicate, List.cons_append, List.nil_append, List.append_nil, List.getElem?_cons_zero, List.getElem?_cons_succ, List.set_cons_zero, List.set_cons_succ, Nat.reduceAdd, Nat.reduceSub, Option.some.injEq, exists_eq_left', exists_eq_left, V.int.injEq, V.bl.injEq, V.str.injEq, V.ref.injEq, List.cons.injEq, and_true, true_and, and_assoc, reduceCtorEq, false_and, exists_false, or_false, false_or, exists_and_left, exists_const, scal, Int.reduceLT, Int.reduceLE, Int.reduceSub, Int.reduceAdd, Int.reduceNeg, if_true, if_false]
    refine ⟨bits, rfl, cshl (x := 2) (k := 2) (by decide) (by omega) (by omega), ?_⟩
    refine ite2 (fun c => ?_) (fun c => ?_)
    · have e : n = 0 := by
        have := of_decide_eq_true c
        omega
      have e2 : bendF n bits = 2 * 2 ^ bits := by
        unfold bendF
        rw [if_pos e]
      rw [← e2]
      exact q H (Same.refl H)
    · have n0 : n ≠ 0 := fun z => c (by rw [z]; rfl)
      have ok := ok.resolve_left n0
      refine rd_while (fun m σ H' => ∃ (bend : Int) (v3 v4 v5 : Option V), σ = [some (.int n), some (.int bits), some (.int bend), v3, v4, v5] ∧ bendOk n bits m bend = true ∧ bendLoop n (2 ^ bits) m bend = bendF n bits ∧ Same H H') 40
        ⟨2 * 2 ^ bits, none, none, none, rfl, ok, by unfold bendF; rw [if_neg n0], Same.refl H⟩ ?_ (fun σ H Q Q' hQ h => by
          simp only [tSeq, tIfS, tOr, tAnd, tB, tTest, tCB, tCons, tVar, tC, tNil, tNot, tNotV, tRet, tRetN, tNext, tBreak, tOrV, tAndV, tOp, tUn, rEq, rNe, tChain, rI0, rI, rU, tAsg, gName, tDrop, tAug, ipI, tIf, tCall, tCallS, tLst, tTup, tBM, tBM0, rAppend, rExtend, rPop, rReverse, tyV, rIxL, rIxT, rIxS, rIsB, rNotB, L2.start, List.map_cons, List.map_nil, List.length_cons, List.length_nil, List.replicate, List.cons_append, List.nil_append, List.append_nil, List.getElem?_cons_zero, List.getElem?_cons_succ, List.set_cons_zero, List.set_cons_succ, Nat.reduceAdd, Nat.reduceSub, Option.some.injEq, exists_eq_left', exists_eq_left, V.int.injEq, V.bl.injEq, V.str.injEq, V.ref.injEq, List.cons.injEq, and_true, true_and, and_assoc, reduceCtorEq, false_and, exists_false, or_false, false_or, exists_and_left, exists_const, scal, Int.reduceLT, Int.reduceLE, Int.reduceSub, Int.reduceAdd, Int.reduceNeg, if_true, if_false] at h ⊢
          exact hQ _ _ h)
      rintro m σ H1 ⟨bend, v3, v4, v5, rfl, o1, o2, s1⟩
      match m, o1, o2 with
      | m + 1, o1, o2 =>
        unfold bendOk at o1
        have o2 : (if (sineF bend (2 ^ bits) (n - 1)).2.1 * 2 ^ bits / (sineF bend (2 ^ bits) (n - 1)).2.2.2 ≤ 0 then bend else bendLoop n (2 ^ bits) m (bend - (sineF bend (2 ^ bits) (n - 1)).2.1 * 2 ^ bits / (sineF bend (2 ^ bits) (n - 1)).2.2.2)) = bendF n bits := o2
        simp only [Bool.and_eq_true, decide_eq_true_eq] at o1
        obtain ⟨b1, b2, b3, b4⟩ := o1
        obtain ⟨g1, g2, g3, g4⟩ := sine_at b2 (Nat.le_refl _)
        simp only [tSeq, tIfS, tOr, tAnd, tB, tTest, tCB, tCons, tVar, tC, tNil, tNot, tNotV, tRet, tRetN, tNext, tBreak, tOrV, tAndV, tOp, tUn, rEq, rNe, tChain, rI0, rI, rU, tAsg, gName, tDrop, tAug, ipI, tIf, tCall, tCallS, tLst, tTup, tBM, tBM0, rAppend, rExtend, rPop, rReverse, tyV, rIxL, rIxT, rIxS, rIsB, rNotB, L2.start, List.map_cons, List.map_nil, List.length_cons, List.length_nil, List.replicate, List.cons_append, List.nil_append, List.append_nil, List.getElem?_cons_zero, List.getElem?_cons_succ, List.set_cons_zero, List.set_cons_succ, Nat.reduceAdd, Nat.reduceSub, Option.some.injEq, exists_eq_left', exists_eq_left, V.int.injEq, V.bl.injEq, V.str.injEq, V.ref.injEq, List.cons.injEq, and_true, true_and, and_assoc, reduceCtorEq, false_and, exists_false, or_false, false_or, exists_and_left, exists_const, scal, Int.reduceLT, Int.reduceLE, Int.reduceSub, Int.reduceAdd, Int.reduceNeg, if_true, if_false]
        refine ⟨n, bits, bend, rfl, by omega, hn, by omega, b1, b2, fun p H2 s2 hp e2 => ?_⟩
        refine ⟨p, _, rfl, SqT.of e2, rfl, _, _, rfl, _, _, rfl, rfl, ?_⟩
        simp only [tSeq, tIfS, tOr, tAnd, tB, tTest, tCB, tCons, tVar, tC, tNil, tNot, tNotV, tRet, tRetN, tNext, tBreak, tOrV, tAndV, tOp, tUn, rEq, rNe, tChain, rI0, rI, rU, tAsg, gName, tDrop, tAug, ipI, tIf, tCall, tCallS, tLst, tTup, tBM, tBM0, rAppend, rExtend, rPop, rReverse, tyV, rIxL, rIxT, rIxS, rIsB, rNotB, L2.start, List.map_cons, List.map_nil, List.length_cons, List.length_nil, List.replicate, List.cons_append, List.nil_append, List.append_nil, List.getElem?_cons_zero, List.getElem?_cons_succ, List.set_cons_zero, List.set_cons_succ, Nat.reduceAdd, Nat.reduceSub, Option.some.injEq, exists_eq_left', exists_eq_left, V.int.injEq, V.bl.injEq, V.str.injEq, V.ref.injEq, List.cons.injEq, and_true, true_and, and_assoc, reduceCtorEq, false_and, exists_false, or_false, false_or, exists_and_left, exists_const, scal, Int.reduceLT, Int.reduceLE, Int.reduceSub, Int.reduceAdd, Int.reduceNeg, if_true, if_false]
        refine ⟨bits, rfl, cshl g2 (by omega) (by omega), ⟨b3, Nat.lt_of_lt_of_le (PySem.Flt.log2_lt_of (by omega) g4) (by omega)⟩, ?_⟩
        refine ite2 (fun c => ?_) (fun c => ?_)
        · have c := of_decide_eq_true c
          rw [if_pos c] at o2
          rw [o2]
          exact q H2 (s1.trans s2)
        · have c := (fun z => c (decide_eq_true z) : ¬ _)
          rw [if_neg c] at o2 b4
          exact ⟨m, by omega, b4, o2, s1.trans s2⟩
/-- three whole numbers by letter -/
def v3i (D : Fin 3 → Int) : List V := [.int (D 0), .int (D 1), .int (D 2)]
def bendT (a b c bits : Nat) : Fin 3 → Fin 3 → Int := tri 0 (bendF a bits) (bendF b bits) (bendF c bits)
/-- the scale of this many bits -/
def ScAt (K : PySem.W.Frag) (H : Hp) (p : Addr) (a b c bits : Nat) : Prop :=
  ∃ bt : Addr, H p = some (.tup [.int (bits : Int), .ref bt]) ∧ H bt = some (.tup [.int (bendF a bits), .int (bendF b bits), .int (bendF c bits)])
theorem ScAt.same {H H' : Hp} {p : Addr} {a b c bits : Nat} (h : ScAt K H p a b c bits) (s : Same H H') : ScAt K H' p a b c bits := by
  obtain ⟨bt, h1, h2⟩ := h
  exact ⟨bt, s _ _ h1, s _ _ h2⟩
def bitsOf (s : Nat) : Nat := 256 * (s + 1) + 32
def spScaleFor (K : PySem.W.Frag) : Sp := fun vs H Q _ => ∃ (o : Addr) (a b c s : Nat), vs = [.ref o, .int ((128 * (s + 1) : Nat) : Int)] ∧ SqT K H o [.int (a : Int), .int (b : Int), .int (c : Int)] ∧ okOrd a ∧ okOrd b ∧ okOrd c ∧ s < 8 ∧
  ∀ p H', Same H H' → H p = none → ScAt K H' p a b c (bitsOf s) → Q (.ref p) H'
theorem ok_scale_for (T : Txt K mg cx) : FK.Has P w K mg base CX0 3 "scale_for" ["orders", "steps"] (spScaleFor K) := by
  have H_bend_of := ok_bend_of (P := P) (w := w) (base := base) T
  refine T.d_scale_for.ok sc_scale_for (fun vs H Q E h => ?_) (fun f cdv A outer s H vs Q E hr h => ?_)
  · obtain ⟨o, a, b, c, s, rfl, _⟩ := h
    rfl
  · obtain ⟨o, a, b, c, s, rfl, hS, ha, hb, hc, hs, q⟩ := h
    refine ⟨_, (pss_cons (ps_set (i := 2) sc_scale_for.nd rfl (Or.inr rfl) (by exact (pe_op op_add (pe_op op_mulW pe_int (pv 1)) (pe_glob (v := .int 32) rfl T.c_GUARD ⟨_, rfl⟩))))
  (pss_one (ps_ret (pe_tup (pa_cons (pv 2) (pa_cons (pe_callTy call_tuple_of (by rfl) T.n_tuple (by decide +kernel) (pa_cons (pe_lc (own := [("order", 3)]) (g := gName 3) (tt := tYes) rfl sc_scale_for.nd (pi_tup (pv 0)) (blkOk_by (own := [("order", 3)]) (N := ["orders", "steps", "bits", "order"]) (sc := defScope s_scale_for) (by decide +kernel)) (fun _ _ _ _ _ => (pg_name (i := 3) sc_scale_for.nd rfl (Or.inl rfl))) (fun _ _ _ _ _ => pts_nil) (fun _ _ _ _ _ => (FK.pe_h (E := E0) H_bend_of (hr.mono (by decide)) pass0 (pa_cons (pv 3) (pa_cons (pv 2) pa_nil))))) pa_nil)) pa_nil)))))), ?_⟩
    simp only [tSeq, tIfS, tOr, tAnd, tB, tTest, tCB, tCons, tVar, tC, tNil, tNot, tNotV, tRet, tRetN, tNext, tBreak, tOrV, tAndV, tOp, tUn, rEq, rNe, tChain, rI0, rI, rU, tAsg, gName, tDrop, tAug, ipI, tIf, tCall, tCallS, tLst, tTup, tBM, tBM0, rAppend, rExtend, rPop, rReverse, tyV, rIxL, rIxT, rIxS, rIsB, rNotB, L2.start, List.map_cons, List.map_nil, List.length_cons, List.length_nil, List.replicate, List.cons_append, List.nil_append, List.append_nil, List.getElem?_cons_zero, List.getElem?_cons_succ, List.set_cons_zero, List.set_cons_succ, Nat.reduceAdd, Nat.reduceSub, Option.some.injEq, exists_eq_left', exists_eq_left, V.int.injEq, V.bl.injEq, V.str.injEq, V.ref.injEq, List.cons.injEq, and_true, true_and, and_assoc, reduceCtorEq, false_and, exists_false, or_false, false_or, exists_and_left, exists_const, scal, Int.reduceLT, Int.reduceLE, Int.reduceSub, Int.reduceAdd, Int.reduceNeg, if_true, if_false]
    have eb : 2 * ((128 * (s + 1) : Nat) : Int) + 32 = ((bitsOf s : Nat) : Int) := by unfold bitsOf; omega
    have hbl : bitsOf s ≤ 2500 := by unfold bitsOf; omega
    have le12 : ∀ {n : Nat}, okOrd n → n ≤ 12 ∧ n ≠ 1 := fun {n} h => by rcases h with h | h <;> omega
    have okb : ∀ {n : Nat}, okOrd n → (n = 0 ∨ bendOk n (bitsOf s) 40 (2 * 2 ^ bitsOf s) = true) := fun {n} h => by
      by_cases z : n = 0
      · exact .inl z
      · exact .inr (bendOk_of hs h z)
    rw [eb]
    refine ⟨wide_mul (a := 2) (b := 30) (by decide) (by omega) (by decide) (by decide) (by decide), ?_⟩
    refine FK.rd_lc_same (J := Itt K o) (H1 := H) [.int (bendF a (bitsOf s)), .int (bendF b (bitsOf s)), .int (bendF c (bitsOf s))] (fun R r => ⟨_, rfl, o, rfl, ⟨_, hS⟩, r⟩) (walk_tup (xs := [V.int (a : Int), .int (b : Int), .int (c : Int)])) (fun H' s' => FK.Same.tupS s' hS) (by show 3 < 16777216; decide) (fun _ => rfl) ?_ ?_ (fun _ _ _ _ z => by obtain ⟨rfl, _⟩ := z; exact Same.refl _)
    · rintro j x z H' H'' R hz s1 ⟨rfl, hx⟩ go
      have one : ∀ (n : Nat), okOrd n → x = .int (n : Int) → z = .int (bendF n (bitsOf s)) → tCall spBend [] E0 (tCons (tVar 3) (tCons (tVar 2) tNil)) ((wipe [some (V.ref o), some (V.int ↑(128 * (s + 1))), some (V.int (bitsOf s : Nat)), none] [3]).set 3 (some x)) H'' R := by
        rintro n hn rfl rfl
        exact ⟨_, rfl, _, rfl, n, bitsOf s, rfl, (le12 hn).1, (le12 hn).2, hbl, okb hn, fun H4 s4 => go H4 s4⟩
      match j, hz, hx with
      | 0, hz, hx => cases hz; cases hx; exact one a ha rfl rfl
      | 1, hz, hx => cases hz; cases hx; exact one b hb rfl rfl
      | 2, hz, hx => cases hz; cases hx; exact one c hc rfl rfl
      | _ + 3, hz, _ => simp at hz
    · intro D H' hD s1 hD2
      refine ⟨D, rfl, _, .inl ⟨SqL.of hD2, fun l hl => ⟨by decide, fun p hp => q p _ ?_ ?_ ⟨l, upd_same, ?_⟩⟩⟩⟩
      · exact (s1.trans (FK.same_new hl)).trans (FK.same_new hp)
      · exact back s1 (back (FK.same_new hl) hp)
      · rw [upd_ne (fun z => by rw [← z, upd_same] at hp; cases hp), upd_same]

def TT (s : Nat) : Int := ((2 ^ bitsOf s : Nat) : Int)
theorem TT_pow (s : Nat) : ((2 : Int) ^ bitsOf s) = TT s := by simp [TT]
def spFirst (K : PySem.W.Frag) : Sp := fun vs H Q _ => ∃ (sc : Addr) (a b c s : Nat), vs = [.ref sc] ∧ ScAt K H sc a b c (bitsOf s) ∧ s < 8 ∧
  ∀ p H', Same H H' → H p = none → H' p = some (.tup (v3i fun _ => TT s)) → Q (.ref p) H'
theorem ok_first_depths (T : Txt K mg cx) : FK.Has P w K mg base CX0 1 "first_depths" ["scale"] (spFirst K) := by
  refine T.d_first_depths.ok sc_first_depths (fun vs H Q E h => ?_) (fun f cdv A outer s H vs Q E hr h => ?_)
  · obtain ⟨o, a, b, c, s, rfl, _⟩ := h
    rfl
  · obtain ⟨o, a, b, c, s, rfl, ⟨bt, h1, h2⟩, hs, q⟩ := h
    refine ⟨_, (pss_cons (ps_set (i := 1) sc_first_depths.nd rfl (Or.inl rfl) (by exact (pe_op op_shlN pe_int (pe_ix (r := rIxT K) ix_tup (pv 0) pe_int (fun _ _ => rfl)))))
  (pss_one (ps_ret (pe_tup (pa_cons (pv 1) (pa_cons (pv 1) (pa_cons (pv 1) pa_nil))))))), ?_⟩
    simp only [tSeq, tIfS, tOr, tAnd, tB, tTest, tCB, tCons, tVar, tC, tNil, tNot, tNotV, tRet, tRetN, tNext, tBreak, tOrV, tAndV, tOp, tUn, rEq, rNe, tChain, rI0, rI, rU, tAsg, gName, tDrop, tAug, ipI, tIf, tCall, tCallS, tLst, tTup, tBM, tBM0, rAppend, rExtend, rPop, rReverse, tyV, rIxL, rIxT, rIxS, rIsB, rNotB, L2.start, List.map_cons, List.map_nil, List.length_cons, List.length_nil, List.replicate, List.cons_append, List.nil_append, List.append_nil, List.getElem?_cons_zero, List.getElem?_cons_succ, List.set_cons_zero, List.set_cons_succ, Nat.reduceAdd, Nat.reduceSub, Option.some.injEq, exists_eq_left', exists_eq_left, V.int.injEq, V.bl.injEq, V.str.injEq, V.ref.injEq, List.cons.injEq, and_true, true_and, and_assoc, reduceCtorEq, false_and, exists_false, or_false, false_or, exists_and_left, exists_const, scal, Int.reduceLT, Int.reduceLE, Int.reduceSub, Int.reduceAdd, Int.reduceNeg, if_true, if_false]
    refine ⟨_, SqT.of h1, _, rfl, bitsOf s, rfl, cshl (x := 1) (k := 1) (by decide) (by omega) (by unfold bitsOf; omega), by decide, fun p hp => ?_⟩
    refine q p _ (FK.same_new hp) hp ?_
    rw [upd_same, show (1 : Int) * 2 ^ bitsOf s = TT s by rw [Int.one_mul, TT_pow]]
    rfl
def Sm (x : Int) : Prop := ∃ k, k ≤ 9000 ∧ 0 < k ∧ x.natAbs < 2 ^ k
theorem mulOk {x y : Int} (hx : Sm x) (hy : Sm y) : CMulW x y := by
  obtain ⟨j, j1, j0, hj⟩ := hx
  obtain ⟨k, k1, k0, hk⟩ := hy
  exact wide_mul hj hk j0 k0 (by omega)
theorem bend_small {s n : Nat} (hs : s < 8) (hn : okOrd n) : Sm (bendF n (bitsOf s)) := by
  have h := bend_abs hs hn
  refine ⟨256 * (s + 1) + 32 + 2, by omega, by omega, ?_⟩
  have e : 2 ^ (256 * (s + 1) + 32 + 2) = 2 ^ (256 * (s + 1) + 32) * 4 := Nat.pow_add 2 _ 2
  have p : 0 < 2 ^ (256 * (s + 1) + 32) := Nat.pow_pos (by decide)
  rw [e]
  show (bendF n (256 * (s + 1) + 32)).natAbs < _
  generalize 2 ^ (256 * (s + 1) + 32) = t at h p ⊢
  omega
theorem stepI_at {B : Fin 3 → Fin 3 → Int} {t : Int} {i : Fin 3} {D : Fin 3 → Int} : v3i (Cox.stepI B t i D) = [.int (Cox.stepI B t i D 0), .int (Cox.stepI B t i D 1), .int (Cox.stepI B t i D 2)] := rfl
theorem step_self {B : Fin 3 → Fin 3 → Int} {t : Int} {i : Fin 3} {D : Fin 3 → Int} : -D i = Cox.stepI B t i D i := by
  unfold Cox.stepI
  rw [if_pos rfl]
theorem step_oth {B : Fin 3 → Fin 3 → Int} {t : Int} {i j : Fin 3} {D : Fin 3 → Int} (h : j ≠ i) : D j + B i j * D i / t = Cox.stepI B t i D j := by
  unfold Cox.stepI
  rw [if_neg h]
theorem tri_at (x y z : Int) : tri 0 x y z 0 1 = x ∧ tri 0 x y z 0 2 = z ∧ tri 0 x y z 1 0 = x ∧ tri 0 x y z 1 2 = y ∧ tri 0 x y z 2 0 = z ∧ tri 0 x y z 2 1 = y := ⟨rfl, rfl, rfl, rfl, rfl, rfl⟩
theorem step_0 (x y z t : Int) (D : Fin 3 → Int) : ([.int (-D 0), .int (D 1 + x * D 0 / t), .int (D 2 + z * D 0 / t)] : List V) = v3i (Cox.stepI (tri 0 x y z) t 0 D) := by
  unfold v3i
  rw [← step_self, ← step_oth (i := 0) (j := 1) (by decide), ← step_oth (i := 0) (j := 2) (by decide), (tri_at x y z).1, (tri_at x y z).2.1]
theorem step_1 (x y z t : Int) (D : Fin 3 → Int) : ([.int (D 0 + x * D 1 / t), .int (-D 1), .int (D 2 + y * D 1 / t)] : List V) = v3i (Cox.stepI (tri 0 x y z) t 1 D) := by
  unfold v3i
  rw [← step_self, ← step_oth (i := 1) (j := 0) (by decide), ← step_oth (i := 1) (j := 2) (by decide), (tri_at x y z).2.2.1, (tri_at x y z).2.2.2.1]
theorem step_2 (x y z t : Int) (D : Fin 3 → Int) : ([.int (D 0 + z * D 2 / t), .int (D 1 + y * D 2 / t), .int (-D 2)] : List V) = v3i (Cox.stepI (tri 0 x y z) t 2 D) := by
  unfold v3i
  rw [← step_self, ← step_oth (i := 2) (j := 0) (by decide), ← step_oth (i := 2) (j := 1) (by decide), (tri_at x y z).2.2.2.2.1, (tri_at x y z).2.2.2.2.2]
theorem iteT' {c : Prop} [Decidable c] {p q : Prop} (h : c) (hp : p) : if c then p else q := by rw [if_pos h]; exact hp
theorem iteF' {c : Prop} [Decidable c] {p q : Prop} (h : ¬ c) (hq : q) : if c then p else q := by rw [if_neg h]; exact hq
def spBehind (K : PySem.W.Frag) : Sp := fun vs H Q _ => ∃ (sc dp : Addr) (a b c s : Nat) (D : Fin 3 → Int) (i : Fin 3), vs = [.ref sc, .ref dp, .str (wS [i])] ∧ ScAt K H sc a b c (bitsOf s) ∧ s < 8 ∧ okOrd a ∧ okOrd b ∧ okOrd c ∧
  H dp = some (.tup (v3i D)) ∧ (∀ j, Sm (D j)) ∧ ∀ p H', Same H H' → H p = none → H' p = some (.tup (v3i (stepI (bendT a b c (bitsOf s)) (TT s) i D))) → Q (.ref p) H'
theorem ok_depths_behind (T : Txt K mg cx) : FK.Has P w K mg base CX0 1 "depths_behind" ["scale", "depths", "letter"] (spBehind K) := by
  refine T.d_depths_behind.ok sc_depths_behind (fun vs H Q E h => ?_) (fun f cdv A outer s H vs Q E hr h => ?_)
  · obtain ⟨sc, dp, a, b, c, s, D, i, rfl, _⟩ := h
    rfl
  · obtain ⟨sc, dp, a, b, c, s, D, i, rfl, ⟨bt, h1, h2⟩, hs, ha, hb, hc, hD, hl, q⟩ := h
    refine ⟨_, (pss_cons (ps_asg (pv 0) (pg_tup rfl (pgs_cons (pg_name (i := 3) sc_depths_behind.nd rfl (Or.inl rfl)) (pgs_cons (pg_tup rfl (pgs_cons (pg_name (i := 7) sc_depths_behind.nd rfl (Or.inl rfl)) (pgs_cons (pg_name (i := 8) sc_depths_behind.nd rfl (Or.inl rfl)) (pgs_cons (pg_name (i := 9) sc_depths_behind.nd rfl (Or.inl rfl)) pgs_nil)))) pgs_nil))))
  (pss_cons (ps_asg (pv 1) (pg_tup rfl (pgs_cons (pg_name (i := 4) sc_depths_behind.nd rfl (Or.inl rfl)) (pgs_cons (pg_name (i := 5) sc_depths_behind.nd rfl (Or.inl rfl)) (pgs_cons (pg_name (i := 6) sc_depths_behind.nd rfl (Or.inl rfl)) pgs_nil)))))
  (pss_cons (ps_if (pt_cmpR op_eq (pv 2) pe_str (nomark _)) (pss_one (ps_ret (pe_tup (pa_cons (pe_un un_neg (pv 4)) (pa_cons (pe_op op_add (pv 5) (pe_op op_shrN (pe_op op_mulW (pv 7) (pv 4)) (pv 3))) (pa_cons (pe_op op_add (pv 6) (pe_op op_shrN (pe_op op_mulW (pv 9) (pv 4)) (pv 3))) pa_nil)))))) pss_nil)
  (pss_cons (ps_if (pt_cmpR op_eq (pv 2) pe_str (nomark _)) (pss_one (ps_ret (pe_tup (pa_cons (pe_op op_add (pv 4) (pe_op op_shrN (pe_op op_mulW (pv 7) (pv 5)) (pv 3))) (pa_cons (pe_un un_neg (pv 5)) (pa_cons (pe_op op_add (pv 6) (pe_op op_shrN (pe_op op_mulW (pv 8) (pv 5)) (pv 3))) pa_nil)))))) pss_nil)
  (pss_one (ps_ret (pe_tup (pa_cons (pe_op op_add (pv 4) (pe_op op_shrN (pe_op op_mulW (pv 9) (pv 6)) (pv 3))) (pa_cons (pe_op op_add (pv 5) (pe_op op_shrN (pe_op op_mulW (pv 8) (pv 6)) (pv 3))) (pa_cons (pe_un un_neg (pv 6)) pa_nil)))))))))), ?_⟩
    simp only [tSeq, tIfS, tOr, tAnd, tB, tTest, tCB, tCons, tVar, tC, tNil, tNot, tNotV, tRet, tRetN, tNext, tBreak, tOrV, tAndV, tOp, tUn, rEq, rNe, tChain, rI0, rI, rU, tAsg, gName, tDrop, tAug, ipI, tIf, tCall, tCallS, tLst, tTup, tBM, tBM0, rAppend, rExtend, rPop, rReverse, tyV, rIxL, rIxT, rIxS, rIsB, rNotB, L2.start, List.map_cons, List.map_nil, List.length_cons, List.length_nil, List.replicate, List.cons_append, List.nil_append, List.append_nil, List.getElem?_cons_zero, List.getElem?_cons_succ, List.set_cons_zero, List.set_cons_succ, Nat.reduceAdd, Nat.reduceSub, Option.some.injEq, exists_eq_left', exists_eq_left, V.int.injEq, V.bl.injEq, V.str.injEq, V.ref.injEq, List.cons.injEq, and_true, true_and, and_assoc, reduceCtorEq, false_and, exists_false, or_false, false_or, exists_and_left, exists_const, scal, Int.reduceLT, Int.reduceLE, Int.reduceSub, Int.reduceAdd, Int.reduceNeg, if_true, if_false]
    refine ⟨sc, _, rfl, SqT.of h1, rfl, _, _, rfl, _, _, rfl, bt, _, rfl, SqT.of h2, rfl, _, _, rfl, _, _, rfl, _, _, rfl, rfl, rfl, ?_⟩
    simp only [tSeq, tIfS, tOr, tAnd, tB, tTest, tCB, tCons, tVar, tC, tNil, tNot, tNotV, tRet, tRetN, tNext, tBreak, tOrV, tAndV, tOp, tUn, rEq, rNe, tChain, rI0, rI, rU, tAsg, gName, tDrop, tAug, ipI, tIf, tCall, tCallS, tLst, tTup, tBM, tBM0, rAppend, rExtend, rPop, rReverse, tyV, rIxL, rIxT, rIxS, rIsB, rNotB, L2.start, List.map_cons, List.map_nil, List.length_cons, List.length_nil, List.replicate, List.cons_append, List.nil_append, List.append_nil, List.getElem?_cons_zero, List.getElem?_cons_succ, List.set_cons_zero, List.set_cons_succ, Nat.reduceAdd, Nat.reduceSub, Option.some.injEq, exists_eq_left', exists_eq_left, V.int.injEq, V.bl.injEq, V.str.injEq, V.ref.injEq, List.cons.injEq, and_true, true_and, and_assoc, reduceCtorEq, false_and, exists_false, or_false, false_or, exists_and_left, exists_const, scal, Int.reduceLT, Int.reduceLE, Int.reduceSub, Int.reduceAdd, Int.reduceNeg, if_true, if_false]
    refine ⟨dp, _, rfl, SqT.of hD, rfl, _, _, rfl, _, _, rfl, _, _, rfl, rfl, ?_⟩
    simp only [tSeq, tIfS, tOr, tAnd, tB, tTest, tCB, tCons, tVar, tC, tNil, tNot, tNotV, tRet, tRetN, tNext, tBreak, tOrV, tAndV, tOp, tUn, rEq, rNe, tChain, rI0, rI, rU, tAsg, gName, tDrop, tAug, ipI, tIf, tCall, tCallS, tLst, tTup, tBM, tBM0, rAppend, rExtend, rPop, rReverse, tyV, rIxL, rIxT, rIxS, rIsB, rNotB, L2.start, List.map_cons, List.map_nil, List.length_cons, List.length_nil, List.replicate, List.cons_append, List.nil_append, List.append_nil, List.getElem?_cons_zero, List.getElem?_cons_succ, List.set_cons_zero, List.set_cons_succ, Nat.reduceAdd, Nat.reduceSub, Option.some.injEq, exists_eq_left', exists_eq_left, V.int.injEq, V.bl.injEq, V.str.injEq, V.ref.injEq, List.cons.injEq, and_true, true_and, and_assoc, reduceCtorEq, false_and, exists_false, or_false, false_or, exists_and_left, exists_const, scal, Int.reduceLT, Int.reduceLE, Int.reduceSub, Int.reduceAdd, Int.reduceNeg, if_true, if_false]
    have sa := bend_small hs ha
    have sb := bend_small hs hb
    have sc' := bend_small hs hc
    rcases let3 i with ⟨e, rfl⟩ | ⟨e, rfl⟩ | ⟨e, rfl⟩
    · rw [e]
      refine iteT' (by decide +kernel) ⟨mulOk sa (hl 0), bitsOf s, rfl, mulOk sc' (hl 0), bitsOf s, rfl, by decide, fun p hp => q p _ (FK.same_new hp) hp ?_⟩
      rw [upd_same, TT_pow, step_0 _ (bendF b (bitsOf s)) _]
      rfl
    · rw [e]
      refine iteF' (by decide +kernel) (iteT' (by decide +kernel) ⟨mulOk sa (hl 1), bitsOf s, rfl, mulOk sb (hl 1), bitsOf s, rfl, by decide, fun p hp => q p _ (FK.same_new hp) hp ?_⟩)
      rw [upd_same, TT_pow, step_1 _ _ (bendF c (bitsOf s))]
      rfl
    · rw [e]
      refine iteF' (by decide +kernel) (iteF' (by decide +kernel) ⟨mulOk sc' (hl 2), bitsOf s, rfl, mulOk sb (hl 2), bitsOf s, rfl, by decide, fun p hp => q p _ (FK.same_new hp) hp ?_⟩)
      rw [upd_same, TT_pow, step_2 (bendF a (bitsOf s)) _ _]
      rfl

theorem depI_small {a b c s : Nat} (hs : s < 8) (ha : okOrd a) (hb : okOrd b) (hc : okOrd c) {w : W} (hw : w.length ≤ 2000) (j : Fin 3) : Sm (Cox.depI (bendT a b c (bitsOf s)) (TT s) w j) := by
  have h := dep_abs (B := bendT a b c (bitsOf s)) (T := 2 ^ bitsOf s) (Nat.pow_pos (by decide)) (tri_abs (bend_abs hs ha) (bend_abs hs hb) (bend_abs hs hc)) w j
  refine ⟨bitsOf s + 2 * w.length + 1, by unfold bitsOf; omega, by omega, ?_⟩
  have e : 2 ^ (bitsOf s + 2 * w.length + 1) = 2 * (2 ^ bitsOf s * 4 ^ w.length) := by
    rw [Nat.pow_succ, Nat.pow_add, Nat.pow_mul]
    rw [Nat.mul_comm]
  have p : 0 < 2 ^ bitsOf s * 4 ^ w.length := Nat.mul_pos (Nat.pow_pos (by decide)) (Nat.pow_pos (by decide))
  rw [e]
  show (Cox.depI (bendT a b c (bitsOf s)) ((2 ^ bitsOf s : Nat) : Int) w j).natAbs < _
  generalize 2 ^ bitsOf s * 4 ^ w.length = t at h p ⊢
  omega
theorem drop_rev {w : W} {i : Nat} {x : Fin 3} (h : w.reverse[i]? = some x) : w.drop (w.length - (i + 1)) = x :: w.drop (w.length - i) := by
  have hi : i < w.length := by
    have := (List.getElem?_eq_some_iff.mp h).1
    rwa [List.length_reverse] at this
  rw [List.getElem?_reverse hi] at h
  have h2 : w.length - 1 - i < w.length := by omega
  rw [List.getElem?_eq_getElem h2] at h
  have e := List.drop_eq_getElem_cons h2
  rw [Option.some.inj h] at e
  rw [show w.length - (i + 1) = w.length - 1 - i by omega, e, show w.length - 1 - i + 1 = w.length - i by omega]
def spDepths (K : PySem.W.Frag) : Sp := fun vs H Q _ => ∃ (sc : Addr) (a b c s : Nat) (w : W), vs = [.ref sc, .str (wS w)] ∧ ScAt K H sc a b c (bitsOf s) ∧ s < 8 ∧ okOrd a ∧ okOrd b ∧ okOrd c ∧ w.length ≤ 2000 ∧
  ∀ p H', Same H H' → H p = none → H' p = some (.tup (v3i (Cox.depI (bendT a b c (bitsOf s)) (TT s) w))) → Q (.ref p) H'
theorem ok_depths_of (T : Txt K mg cx) : FK.Has P w K mg base CX0 2 "depths_of" ["scale", "word"] (spDepths K) := by
  have H_first_depths := ok_first_depths (P := P) (w := w) (base := base) T
  have H_depths_behind := ok_depths_behind (P := P) (w := w) (base := base) T
  refine T.d_depths_of.ok sc_depths_of (fun vs H Q E h => ?_) (fun f cdv A outer s H vs Q E hr h => ?_)
  · obtain ⟨sc, a, b, c, s, w, rfl, _⟩ := h
    rfl
  · obtain ⟨sc, a, b, c, s, w, rfl, hsc, hs, ha, hb, hc, hw, q⟩ := h
    refine ⟨_, (pss_cons (ps_set (i := 2) sc_depths_of.nd rfl (Or.inl rfl) (by exact (FK.pe_h (E := E0) H_first_depths (hr.mono (by decide)) pass0 (pa_cons (pv 0) pa_nil))))
  (pss_cons (ps_for PassesOwn.never rfl (pi_str (FK.pe_revS (pv 1))) (pg_name (i := 3) sc_depths_of.nd rfl (Or.inl rfl))
  (pss_one (ps_set (i := 2) sc_depths_of.nd rfl (Or.inl rfl) (by exact (FK.pe_h (E := E0) H_depths_behind (hr.mono (by decide)) pass0 (pa_cons (pv 0) (pa_cons (pv 2) (pa_cons (pv 3) pa_nil))))))))
  (pss_one (ps_ret (pv 2))))), ?_⟩
    simp only [tSeq, tIfS, tOr, tAnd, tB, tTest, tCB, tCons, tVar, tC, tNil, tNot, tNotV, tRet, tRetN, tNext, tBreak, tOrV, tAndV, tOp, tUn, rEq, rNe, tChain, rI0, rI, rU, tAsg, gName, tDrop, tAug, ipI, tIf, tCall, tCallS, tLst, tTup, tBM, tBM0, rAppend, rExtend, rPop, rReverse, tyV, rIxL, rIxT, rIxS, rIsB, rNotB, L2.start, List.map_cons, List.map_nil, List.length_cons, List.length_nil, List.replicate, List.cons_append, List.nil_append, List.append_nil, List.getElem?_cons_zero, List.getElem?_cons_succ, List.set_cons_zero, List.set_cons_succ, Nat.reduceAdd, Nat.reduceSub, Option.some.injEq, exists_eq_left', exists_eq_left, V.int.injEq, V.bl.injEq, V.str.injEq, V.ref.injEq, List.cons.injEq, and_true, true_and, and_assoc, reduceCtorEq, false_and, exists_false, or_false, false_or, exists_and_left, exists_const, scal, Int.reduceLT, Int.reduceLE, Int.reduceSub, Int.reduceAdd, Int.reduceNeg, if_true, if_false]
    refine ⟨sc, a, b, c, s, rfl, hsc, hs, fun p0 H0 s0 hp0 e0 => ?_⟩
    simp only [tSeq, tIfS, tOr, tAnd, tB, tTest, tCB, tCons, tVar, tC, tNil, tNot, tNotV, tRet, tRetN, tNext, tBreak, tOrV, tAndV, tOp, tUn, rEq, rNe, tChain, rI0, rI, rU, tAsg, gName, tDrop, tAug, ipI, tIf, tCall, tCallS, tLst, tTup, tBM, tBM0, rAppend, rExtend, rPop, rReverse, tyV, rIxL, rIxT, rIxS, rIsB, rNotB, L2.start, List.map_cons, List.map_nil, List.length_cons, List.length_nil, List.replicate, List.cons_append, List.nil_append, List.append_nil, List.getElem?_cons_zero, List.getElem?_cons_succ, List.set_cons_zero, List.set_cons_succ, Nat.reduceAdd, Nat.reduceSub, Option.some.injEq, exists_eq_left', exists_eq_left, V.int.injEq, V.bl.injEq, V.str.injEq, V.ref.injEq, List.cons.injEq, and_true, true_and, and_assoc, reduceCtorEq, false_and, exists_false, or_false, false_or, exists_and_left, exists_const, scal, Int.reduceLT, Int.reduceLE, Int.reduceSub, Int.reduceAdd, Int.reduceNeg, if_true, if_false]
    have ez : (wS w).length ≤ sizeLine := by rw [wS_len]; exact Nat.le_trans hw (by decide)
    refine FK.rd_for (J := Its (wS w.reverse)) (H1 := H0) (fun R r => ⟨_, rfl, wS w, rfl, ez, _, rfl, by rw [wS_rev]; exact r⟩) walk_str
      (fun i σ H' => ∃ (p : Addr) (v3 : Option V), σ = [some (.ref sc), some (.str (wS w)), some (.ref p), v3] ∧ Same H H' ∧ H p = none ∧ H' p = some (.tup (v3i (Cox.depI (bendT a b c (bitsOf s)) (TT s) (w.drop (w.length - i))))))
      ⟨p0, none, rfl, s0, hp0, by rw [Nat.sub_zero, List.drop_length]; exact e0⟩ (fun _ _ _ _ _ => trivial) ?_ ?_
    · rintro i x σ H1 H2 hi ⟨p, v3, rfl, s1, hp, e1⟩ ⟨rfl, ch, hc1, rfl⟩
      obtain ⟨l, hl, el⟩ := wS_at hc1
      rw [el]
      have hi2 : i < w.length := by
        have := hi
        rw [show (wS w.reverse).cps.size = w.length from by rw [← List.length_reverse (as := w)]; exact wS_len _] at this
        exact this
      have ed := drop_rev hl
      refine ⟨_, rfl, _, rfl, _, rfl, sc, p, a, b, c, s, _, l, rfl, hsc.same s1, hs, ha, hb, hc, e1, fun j => depI_small hs ha hb hc (by rw [List.length_drop]; omega) j, fun p2 H3 s3 hp2 e3 => ?_⟩
      refine ⟨p2, some (.str (wS [l])), rfl, s1.trans s3, back s1 hp2, ?_⟩
      rw [e3, ed]
      rfl
    · rintro σ H1 ⟨p, v3, rfl, s1, hp, e1⟩
      have e2 : (wS w.reverse).cps.size = w.length := by rw [← List.length_reverse (as := w)]; exact wS_len _
      rw [e2, Nat.sub_self, List.drop_zero] at e1
      simp only [tSeq, tIfS, tOr, tAnd, tB, tTest, tCB, tCons, tVar, tC, tNil, tNot, tNotV, tRet, tRetN, tNext, tBreak, tOrV, tAndV, tOp, tUn, rEq, rNe, tChain, rI0, rI, rU, tAsg, gName, tDrop, tAug, ipI, tIf, tCall, tCallS, tLst, tTup, tBM, tBM0, rAppend, rExtend, rPop, rReverse, tyV, rIxL, rIxT, rIxS, rIsB, rNotB, L2.start, List.map_cons, List.map_nil, List.length_cons, List.length_nil, List.replicate, List.cons_append, List.nil_append, List.append_nil, List.getElem?_cons_zero, List.getElem?_cons_succ, List.set_cons_zero, List.set_cons_succ, Nat.reduceAdd, Nat.reduceSub, Option.some.injEq, exists_eq_left', exists_eq_left, V.int.injEq, V.bl.injEq, V.str.injEq, V.ref.injEq, List.cons.injEq, and_true, true_and, and_assoc, reduceCtorEq, false_and, exists_false, or_false, false_or, exists_and_left, exists_const, scal, Int.reduceLT, Int.reduceLE, Int.reduceSub, Int.reduceAdd, Int.reduceNeg, if_true, if_false]
      exact q p H1 s1 hp e1
def spFirstFar (K : PySem.W.Frag) : Sp := fun vs H Q _ => ∃ (dp : Addr) (D : Fin 3 → Int), vs = [.ref dp] ∧ H dp = some (.tup (v3i D)) ∧
  ∀ H', Same H H' → Q (.str (match Cox.firstNeg D with | none => "" | some i => wS [i])) H'
theorem ok_first_far (T : Txt K mg cx) : FK.Has P w K mg base CX0 1 "first_far" ["depths"] (spFirstFar K) := by
  refine T.d_first_far.ok sc_first_far (fun vs H Q E h => ?_) (fun f cdv A outer s H vs Q E hr h => ?_)
  · obtain ⟨dp, D, rfl, _⟩ := h
    rfl
  · obtain ⟨dp, D, rfl, hD, q⟩ := h
    refine ⟨_, (pss_cons (ps_asg (pv 0) (pg_tup rfl (pgs_cons (pg_name (i := 1) sc_first_far.nd rfl (Or.inl rfl)) (pgs_cons (pg_name (i := 2) sc_first_far.nd rfl (Or.inl rfl)) (pgs_cons (pg_name (i := 3) sc_first_far.nd rfl (Or.inl rfl)) pgs_nil)))))
  (pss_cons (ps_if (pt_cmpR op_lt (pv 1) pe_int (nomark _)) (pss_one (ps_ret pe_str)) pss_nil)
  (pss_cons (ps_if (pt_cmpR op_lt (pv 2) pe_int (nomark _)) (pss_one (ps_ret pe_str)) pss_nil)
  (pss_one (ps_ret (pe_ifExp (pt_cmpR op_lt (pv 3) pe_int (nomark _)) pe_str pe_str)))))), ?_⟩
    simp only [tSeq, tIfS, tOr, tAnd, tB, tTest, tCB, tCons, tVar, tC, tNil, tNot, tNotV, tRet, tRetN, tNext, tBreak, tOrV, tAndV, tOp, tUn, rEq, rNe, tChain, rI0, rI, rU, tAsg, gName, tDrop, tAug, ipI, tIf, tCall, tCallS, tLst, tTup, tBM, tBM0, rAppend, rExtend, rPop, rReverse, tyV, rIxL, rIxT, rIxS, rIsB, rNotB, L2.start, List.map_cons, List.map_nil, List.length_cons, List.length_nil, List.replicate, List.cons_append, List.nil_append, List.append_nil, List.getElem?_cons_zero, List.getElem?_cons_succ, List.set_cons_zero, List.set_cons_succ, Nat.reduceAdd, Nat.reduceSub, Option.some.injEq, exists_eq_left', exists_eq_left, V.int.injEq, V.bl.injEq, V.str.injEq, V.ref.injEq, List.cons.injEq, and_true, true_and, and_assoc, reduceCtorEq, false_and, exists_false, or_false, false_or, exists_and_left, exists_const, scal, Int.reduceLT, Int.reduceLE, Int.reduceSub, Int.reduceAdd, Int.reduceNeg, if_true, if_false]
    refine ⟨dp, _, rfl, SqT.of hD, rfl, _, _, rfl, _, _, rfl, _, _, rfl, rfl, ?_⟩
    simp only [tSeq, tIfS, tOr, tAnd, tB, tTest, tCB, tCons, tVar, tC, tNil, tNot, tNotV, tRet, tRetN, tNext, tBreak, tOrV, tAndV, tOp, tUn, rEq, rNe, tChain, rI0, rI, rU, tAsg, gName, tDrop, tAug, ipI, tIf, tCall, tCallS, tLst, tTup, tBM, tBM0, rAppend, rExtend, rPop, rReverse, tyV, rIxL, rIxT, rIxS, rIsB, rNotB, L2.start, List.map_cons, List.map_nil, List.length_cons, List.length_nil, List.replicate, List.cons_append, List.nil_append, List.append_nil, List.getElem?_cons_zero, List.getElem?_cons_succ, List.set_cons_zero, List.set_cons_succ, Nat.reduceAdd, Nat.reduceSub, Option.some.injEq, exists_eq_left', exists_eq_left, V.int.injEq, V.bl.injEq, V.str.injEq, V.ref.injEq, List.cons.injEq, and_true, true_and, and_assoc, reduceCtorEq, false_and, exists_false, or_false, false_or, exists_and_left, exists_const, scal, Int.reduceLT, Int.reduceLE, Int.reduceSub, Int.reduceAdd, Int.reduceNeg, if_true, if_false]
    have q2 := q H (Same.refl H)
    unfold Cox.firstNeg at q2
    by_cases c0 : D 0 < 0
    · rw [if_pos c0] at q2
      exact iteT' (decide_eq_true c0) q2
    · rw [if_neg c0] at q2
      refine iteF' (fun z => c0 (of_decide_eq_true z)) ?_
      by_cases c1 : D 1 < 0
      · rw [if_pos c1] at q2
        exact iteT' (decide_eq_true c1) q2
      · rw [if_neg c1] at q2
        refine iteF' (fun z => c1 (of_decide_eq_true z)) ?_
        by_cases c2 : D 2 < 0
        · rw [if_pos c2] at q2
          exact iteT' (decide_eq_true c2) q2
        · rw [if_neg c2] at q2
          exact iteF' (fun z => c2 (of_decide_eq_true z)) q2
theorem negs_take (D : Fin 3 → Int) (j : Nat) (i : Fin 3) (h : ([0, 1, 2] : List (Fin 3))[j]? = some i) : (([0, 1, 2] : List (Fin 3)).take (j + 1)).filter (fun i => decide (D i < 0)) = (([0, 1, 2] : List (Fin 3)).take j).filter (fun i => decide (D i < 0)) ++ (if decide (D i < 0) = true then [i] else []) := by
  rw [List.take_add_one, h, List.filter_append]
  simp
  split <;> simp_all
theorem join_wS (w : W) : Txt.join "" (w.map fun i => wS [i]) = wS w := by
  have := join_signs (w.map fun i => 48 + i.1)
  rw [List.map_map] at this
  exact this
theorem sum_wS (w : W) : ((w.map fun i => wS [i]).map fun x => x.length).sum = w.length := by
  induction w with
  | nil => rfl
  | cons a w ih =>
    rw [List.map_cons, List.map_cons, List.sum_cons, ih, wS_len]
    show 1 + w.length = w.length + 1
    omega
def negs (D : Fin 3 → Int) : W := [0, 1, 2].filter fun i => decide (D i < 0)

/-! the class Floor -/
def fldsF (o d : Addr) : List (Str × V) := putF "scales" (.ref d) (putF "orders" (.ref o) [])
theorem kso : ¬ (("orders" : Str) = "scales") := by decide +kernel
theorem fldsF_eq (o d : Addr) : fldsF o d = ([("orders", V.ref o), ("scales", V.ref d)] : List (Str × V)) := by
  show (if ("orders" : Str) = "scales" then [(("orders" : Str), V.ref d)] else (("orders" : Str), V.ref o) :: putF "scales" (V.ref d) []) = ([("orders", V.ref o), ("scales", V.ref d)] : List (Str × V))
  rw [if_neg kso]
  all_goals rfl
theorem fldsF_o (o d : Addr) : (fldsF o d).lookup ("orders" : Str) = some (.ref o) := by
  unfold fldsF
  rw [lookup_putF, if_neg kso, lookup_putF, if_pos rfl]
theorem fldsF_s (o d : Addr) : (fldsF o d).lookup ("scales" : Str) = some (.ref d) := by
  unfold fldsF
  rw [lookup_putF, if_pos rfl]
theorem fldsF_no (o d : Addr) {m : Str} (h1 : ¬ m = "scales") (h2 : ¬ m = "orders") : (fldsF o d).lookup m = none := by
  unfold fldsF
  rw [lookup_putF, if_neg h1, lookup_putF, if_neg h2]
  all_goals rfl
def kS (s : Nat) : Key := Sum.inl ((s + 1 : Nat) : Int)
/-- a Floor stands at f -/
structure FlAt (K : PySem.W.Frag) (C : Addr) (H : Hp) (f o d : Addr) (a b c : Nat) : Prop where
  ob : ∃ dx, H f = some (.ins C dx (fldsF o d))
  sq : SqT K H o [.int (a : Int), .int (b : Int), .int (c : Int)]
  ha : okOrd a
  hb : okOrd b
  hc : okOrd c
  dc : ∃ kvs : List (Key × V), H d = some (.dK kvs) ∧ (kvs.map (·.1)).Nodup ∧ ∀ kv ∈ kvs, ∃ s p, s < 8 ∧ kv = (kS s, .ref p) ∧ ScAt K H p a b c (bitsOf s)
theorem FlAt.same {C : Addr} {H H' : Hp} {f o d : Addr} {a b c : Nat} (F : FlAt K C H f o d a b c) (s : Same H H') : FlAt K C H' f o d a b c := by
  obtain ⟨⟨dx, h1⟩, h2, ha, hb, hc, kvs, h3, h4, h5⟩ := F
  exact ⟨⟨dx, s _ _ h1⟩, FK.Same.tupS s h2, ha, hb, hc, kvs, s _ _ h3, h4, fun kv m => by
    obtain ⟨s', p, a1, a2, a3⟩ := h5 kv m
    exact ⟨s', p, a1, a2, a3.same s⟩⟩
theorem nodup_small : ∀ (n : Nat) (l : List Nat), l.Nodup → (∀ x ∈ l, x < n) → l.length ≤ n
  | 0, l, _, h => by
    cases l with
    | nil => exact Nat.le_refl _
    | cons x l => exact absurd (h x List.mem_cons_self) (Nat.not_lt_zero _)
  | n + 1, l, hn, h => by
    have h2 := nodup_small n (l.erase n) (hn.erase n) fun x hx => by
      have h3 := h x (List.mem_of_mem_erase hx)
      have h4 : x ≠ n := fun z => by
        rw [z] at hx
        exact (List.Nodup.not_mem_erase hn) hx
      omega
    have := List.length_erase (a := n) (l := l)
    split at this
    · omega
    · omega
theorem kvs_small {H : Hp} {a b c : Nat} {kvs : List (Key × V)} (hn : (kvs.map (·.1)).Nodup) (h : ∀ kv ∈ kvs, ∃ s p, s < 8 ∧ kv = (kS s, .ref p) ∧ ScAt K H p a b c (bitsOf s)) : kvs.length ≤ 8 := by
  have go : ∀ kvs : List (Key × V), (∀ kv ∈ kvs, ∃ s p, s < 8 ∧ kv = (kS s, .ref p) ∧ ScAt K H p a b c (bitsOf s)) → ∃ l : List Nat, (∀ x ∈ l, x < 8) ∧ kvs.map (·.1) = l.map kS := by
    intro kvs
    induction kvs with
    | nil => exact fun _ => ⟨[], (fun _ h => nomatch h), rfl⟩
    | cons kv kvs ih =>
      intro h
      obtain ⟨l, l1, l2⟩ := ih fun x hx => h x (List.mem_cons_of_mem _ hx)
      obtain ⟨s, p, h1, h2, _⟩ := h kv List.mem_cons_self
      refine ⟨s :: l, fun x hx => ?_, by rw [List.map_cons, List.map_cons, l2, h2]⟩
      rcases List.mem_cons.mp hx with rfl | hx
      · exact h1
      · exact l1 x hx
  obtain ⟨l, l1, l2⟩ := go kvs h
  have e : kvs.length = l.length := by rw [← List.length_map (f := (·.1)) (as := kvs), l2, List.length_map]
  rw [e]
  rw [l2] at hn
  refine nodup_small 8 l ?_ l1
  unfold List.Nodup at hn ⊢
  exact (List.pairwise_map.mp hn).imp fun h z => h (by rw [z])
theorem ScAt.upd {H : Hp} {p d : Addr} {a b c bits : Nat} {kvs : List (Key × V)} {u : HO} (h : ScAt K H p a b c bits) (hd : H d = some (.dK kvs)) : ScAt K (upd H d u) p a b c bits := by
  obtain ⟨bt, h1, h2⟩ := h
  exact ⟨bt, by rw [upd_ne (fun z => by rw [z, hd] at h1; cases h1)]; exact h1, by rw [upd_ne (fun z => by rw [z, hd] at h2; cases h2)]; exact h2⟩
theorem SqT.upd {H : Hp} {o d : Addr} {xs : List V} {kvs : List (Key × V)} {u : HO} (h : SqT K H o xs) (hd : H d = some (.dK kvs)) : SqT K (upd H d u) o xs := by
  rcases h with (h | ⟨ob, h⟩) | h
  · exact .inl (.inl (by rw [upd_ne (fun z => by rw [z, hd] at h; cases h)]; exact h))
  · exact .inl (.inr ⟨ob, by rw [upd_ne (fun z => by rw [z, hd] at h; cases h)]; exact h⟩)
  · exact .inr h
theorem valV_mem {κ : Type} [DecidableEq κ] {kvs : List (κ × V)} {k : κ} {v : V} (h : valV kvs k = some v) : (k, v) ∈ kvs := by
  unfold valV at h
  cases e : kvs.find? (fun kv => decide (kv.1 = k)) with
  | none => rw [e] at h; cases h
  | some kv =>
    rw [e] at h
    have h1 := List.mem_of_find?_eq_some e
    have h2 : kv.1 = k := of_decide_eq_true (p := kv.1 = k) (List.find?_some (p := fun kv : κ × V => decide (kv.1 = k)) e)
    obtain ⟨k', v'⟩ := kv
    cases h
    cases h2
    exact h1
def spFloorInit (C : Addr) : Sp := fun vs H Q _ => ∃ (f o dx : Addr), vs = [.ref f, .ref o] ∧ H f = some (.ins C dx []) ∧
  ∀ d H', H d = none → H' f = some (.ins C dx (fldsF o d)) → H' d = some (.dK []) → (∀ b u, H b = some u → b ≠ f → H' b = some u) → Q .non H'
theorem ok_Floor_init (T : Txt K mg cx) : FK.IHas P w K mg base CX0 1 cx.Floor ["self", "orders"] (spFloorInit cx.Floor) := by
  refine T.d_Floor_init.ok sc_Floor_init (fun vs H Q E h => ?_) (fun f cdv A outer s H vs Q E hr h => ?_)
  · obtain ⟨f, o, dx, rfl, _⟩ := h
    rfl
  · obtain ⟨f, o, dx, rfl, hf, q⟩ := h
    refine ⟨_, (pss_cons (ps_fld (pv 0) (pv 1) rfl)
  (pss_one (ps_fld (pv 0) pe_dnewK rfl))), ?_⟩
    simp only [tSeq, tIfS, tOr, tAnd, tB, tTest, tCB, tCons, tVar, tC, tNil, tNot, tNotV, tRet, tRetN, tNext, tBreak, tOrV, tAndV, tOp, tUn, rEq, rNe, tChain, rI0, rI, rU, tAsg, gName, tDrop, tAug, ipI, tIf, tCall, tCallS, tLst, tTup, tBM, tBM0, rAppend, rExtend, rPop, rReverse, tyV, rIxL, rIxT, rIxS, rIsB, rNotB, L2.start, List.map_cons, List.map_nil, List.length_cons, List.length_nil, List.replicate, List.cons_append, List.nil_append, List.append_nil, List.getElem?_cons_zero, List.getElem?_cons_succ, List.set_cons_zero, List.set_cons_succ, Nat.reduceAdd, Nat.reduceSub, Option.some.injEq, exists_eq_left', exists_eq_left, V.int.injEq, V.bl.injEq, V.str.injEq, V.ref.injEq, List.cons.injEq, and_true, true_and, and_assoc, reduceCtorEq, false_and, exists_false, or_false, false_or, exists_and_left, exists_const, scal, Int.reduceLT, Int.reduceLE, Int.reduceSub, Int.reduceAdd, Int.reduceNeg, if_true, if_false]
    refine ⟨_, rfl, _, rfl, f, cx.Floor, dx, [], rfl, hf, T.cl_Floor, T.nF_Floor_orders, (by show 0 < 1000; decide), fun d hd => ?_⟩
    have nfd : f ≠ d := fun z => by rw [← z, upd_same] at hd; cases hd
    have hd0 : H d = none := by rw [upd_ne (fun z => nfd z.symm)] at hd; exact hd
    refine ⟨_, rfl, f, cx.Floor, dx, _, rfl, by rw [upd_ne nfd]; exact upd_same, T.cl_Floor, T.nF_Floor_scales, (by show 1 < 1000; decide), ?_⟩
    refine q d _ hd0 upd_same (by rw [upd_ne nfd.symm, upd_same]) fun b u e hb => ?_
    rw [upd_ne hb, upd_ne (fun z => by rw [z, hd0] at e; cases e), upd_ne hb]
    exact e
def spScale (K : PySem.W.Frag) (C : Addr) : Sp := fun vs H Q _ => ∃ (f o d : Addr) (a b c n : Nat), vs = [.ref f, .int (n : Int)] ∧ FlAt K C H f o d a b c ∧ n < 1024 ∧
  ∀ p H', FlAt K C H' f o d a b c → FK.But d H H' → ScAt K H' p a b c (bitsOf (n / 128)) → Q (.ref p) H'
theorem ok_Floor_scale (T : Txt K mg cx) : FK.MHas P w K mg base CX0 4 cx.Floor "scale" ["self", "steps"] (spScale K cx.Floor) := by
  have H_scale_for := ok_scale_for (P := P) (w := w) (base := base) T
  refine T.d_Floor_scale.ok sc_Floor_scale (fun vs H Q E h => ?_) (fun f cdv A outer s H vs Q E hr h => ?_)
  · obtain ⟨f, o, d, a, b, c, n, rfl, _⟩ := h
    rfl
  · obtain ⟨f, o, d, a, b, c, n, rfl, F, hn, q⟩ := h
    obtain ⟨⟨dx, h1⟩, h2, ha, hb, hc, kvs, h3, h4, h5⟩ := id F
    refine ⟨_, (pss_cons (ps_set (i := 2) sc_Floor_scale.nd rfl (Or.inl rfl) (by exact (pe_op op_add (pe_op op_fdivW (pv 1) (pe_glob (v := .int 128) rfl T.c_SIZE ⟨_, rfl⟩)) pe_int)))
  (pss_cons (ps_if (pt_cmp (pc_dnotin (hu_of hr) (pv 2) (pe_fld (pv 0) rfl))) (pss_one (ps_dput (hu_of hr) (pe_fld (pv 0) rfl) (pv 2) (FK.pe_h (E := E0) H_scale_for (hr.mono (by decide)) pass0 (pa_cons (pe_fld (pv 0) rfl) (pa_cons (pe_op op_mulW (pv 2) (pe_glob (v := .int 128) rfl T.c_SIZE ⟨_, rfl⟩)) pa_nil))) rfl)) pss_nil)
  (pss_one (ps_ret (pe_dget (hu_of hr) (pe_fld (pv 0) rfl) (pv 2) (fun _ _ => rfl)))))), ?_⟩
    simp only [tSeq, tIfS, tOr, tAnd, tB, tTest, tCB, tCons, tVar, tC, tNil, tNot, tNotV, tRet, tRetN, tNext, tBreak, tOrV, tAndV, tOp, tUn, rEq, rNe, tChain, rI0, rI, rU, tAsg, gName, tDrop, tAug, ipI, tIf, tCall, tCallS, tLst, tTup, tBM, tBM0, rAppend, rExtend, rPop, rReverse, tyV, rIxL, rIxT, rIxS, rIsB, rNotB, L2.start, List.map_cons, List.map_nil, List.length_cons, List.length_nil, List.replicate, List.cons_append, List.nil_append, List.append_nil, List.getElem?_cons_zero, List.getElem?_cons_succ, List.set_cons_zero, List.set_cons_succ, Nat.reduceAdd, Nat.reduceSub, Option.some.injEq, exists_eq_left', exists_eq_left, V.int.injEq, V.bl.injEq, V.str.injEq, V.ref.injEq, List.cons.injEq, and_true, true_and, and_assoc, reduceCtorEq, false_and, exists_false, or_false, false_or, exists_and_left, exists_const, scal, Int.reduceLT, Int.reduceLE, Int.reduceSub, Int.reduceAdd, Int.reduceNeg, if_true, if_false]
    have en : ((n : Int) / 128 + 1) = ((n / 128 + 1 : Nat) : Int) := by omega
    have hs : n / 128 < 8 := by omega
    rw [en]
    refine ⟨⟨by decide, by decide +kernel⟩, _, rfl, _, rfl, f, cx.Floor, dx, _, _, rfl, h1, T.cl_Floor, T.nF_Floor_scales, fldsF_s _ _, d, _, rfl, DGet.k (k := kS (n / 128)) h3, _, rfl, ?_⟩
    cases e : valV kvs (kS (n / 128)) with
    | none =>
      refine iteT ?_
      simp only [tSeq, tIfS, tOr, tAnd, tB, tTest, tCB, tCons, tVar, tC, tNil, tNot, tNotV, tRet, tRetN, tNext, tBreak, tOrV, tAndV, tOp, tUn, rEq, rNe, tChain, rI0, rI, rU, tAsg, gName, tDrop, tAug, ipI, tIf, tCall, tCallS, tLst, tTup, tBM, tBM0, rAppend, rExtend, rPop, rReverse, tyV, rIxL, rIxT, rIxS, rIsB, rNotB, L2.start, List.map_cons, List.map_nil, List.length_cons, List.length_nil, List.replicate, List.cons_append, List.nil_append, List.append_nil, List.getElem?_cons_zero, List.getElem?_cons_succ, List.set_cons_zero, List.set_cons_succ, Nat.reduceAdd, Nat.reduceSub, Option.some.injEq, exists_eq_left', exists_eq_left, V.int.injEq, V.bl.injEq, V.str.injEq, V.ref.injEq, List.cons.injEq, and_true, true_and, and_assoc, reduceCtorEq, false_and, exists_false, or_false, false_or, exists_and_left, exists_const, scal, Int.reduceLT, Int.reduceLE, Int.reduceSub, Int.reduceAdd, Int.reduceNeg, if_true, if_false, sDPut]
      refine ⟨_, rfl, f, cx.Floor, dx, _, _, rfl, h1, T.cl_Floor, T.nF_Floor_orders, fldsF_o _ _, wide_mul (a := 30) (b := 30) (by omega) (by decide) (by decide) (by decide) (by decide), o, a, b, c, n / 128, ?_, h2, ha, hb, hc, hs, fun p H1 s1 hp hsc => ?_⟩
      · rw [show ((n / 128 + 1 : Nat) : Int) * 128 = ((128 * (n / 128 + 1) : Nat) : Int) by omega]
      · have k3 := s1 _ _ h3
        have nfd : f ≠ d := fun z => by rw [z, h3] at h1; cases h1
        have hl := kvs_small h4 h5
        refine ⟨_, rfl, f, cx.Floor, dx, _, _, rfl, s1 _ _ h1, T.cl_Floor, T.nF_Floor_scales, fldsF_s _ _, d, rfl, _, DPut.k (k := kS (n / 128)) k3 (Nat.lt_of_le_of_lt hl (by decide)), ?_⟩
        have hg := DGet.k (k := kS (n / 128)) (upd_same (H := H1) (a := d) (o := HO.dK (putK kvs (kS (n / 128)) (.ref p))))
        rw [valV_put, if_pos rfl] at hg
        refine ⟨_, rfl, f, cx.Floor, dx, _, _, rfl, by rw [upd_ne nfd]; exact s1 _ _ h1, T.cl_Floor, T.nF_Floor_scales, fldsF_s _ _, _, rfl, d, _, rfl, hg, q p _ ?_ (fun x u hx hu => by rw [upd_ne hx]; exact s1 _ _ hu) (hsc.upd k3)⟩
        refine ⟨⟨dx, by rw [upd_ne nfd]; exact s1 _ _ h1⟩, SqT.upd (FK.Same.tupS s1 h2) k3, ha, hb, hc, _, upd_same, nd_putK _ h4 e, fun kv hm => ?_⟩
        rw [putK_new _ e] at hm
        rcases List.mem_append.mp hm with hm | hm
        · obtain ⟨s', p', a1, a2, a3⟩ := h5 kv hm
          exact ⟨s', p', a1, a2, (a3.same s1).upd k3⟩
        · exact ⟨n / 128, p, hs, List.mem_singleton.mp hm, hsc.upd k3⟩
    | some v =>
      refine iteF ?_
      have hm : (kS (n / 128), v) ∈ kvs := valV_mem e
      obtain ⟨s', p, hs', hp, hsc⟩ := h5 _ hm
      have e1 : s' = n / 128 := by
        have := congrArg Prod.fst hp
        simp only [kS, Sum.inl.injEq] at this
        omega
      have e2 : v = .ref p := congrArg Prod.snd hp
      subst e1 e2
      have hg := DGet.k (k := kS (n / 128)) h3
      rw [e] at hg
      exact ⟨_, rfl, f, cx.Floor, dx, _, _, rfl, h1, T.cl_Floor, T.nF_Floor_scales, fldsF_s _ _, _, rfl, d, _, rfl, hg, q p H F .refl hsc⟩

/-- the sizes that are used fit -/
theorem fits_at {a b c s : Nat} (ha : okOrd a) (hb : okOrd b) (hc : okOrd c) (hs : s < 8) : Cox.Fits (om a b c) (bendT a b c (bitsOf s)) (TT s) (128 * (s + 1)) := by
  obtain ⟨h1, h2, h3⟩ := size_ok ⟨s, hs⟩
  exact fits h1 h2 h3 ha hb hc
/-- the program's normal word -/
def nfw (a b c : Nat) (w : W) : W := greedy (bendT a b c (bitsOf (2 * w.length / 128))) (TT (2 * w.length / 128)) w.length (Cox.depI (bendT a b c (bitsOf (2 * w.length / 128))) (TT (2 * w.length / 128)) w)
theorem nfw_ok {a b c : Nat} (ha : okOrd a) (hb : okOrd b) (hc : okOrd c) {w : W} (hw : 2 * w.length < 1024) :
    Eqv (om a b c) w (nfw a b c w) ∧ Red (om a b c) (nfw a b c w) ∧ (nfw a b c w).length = ln (om a b c) w ∧ ∀ v, Red (om a b c) v → Eqv (om a b c) w v → lx (nfw a b c w) v := by
  have F := fits_at (s := 2 * w.length / 128) ha hb hc (by omega)
  have h := greedy_ok F w.length w (by omega) (ln_le (.refl w))
  refine ⟨h.1, ?_, h.2.1, h.2.2⟩
  show ln (om a b c) (nfw a b c w) = (nfw a b c w).length
  exact (ln_eqv h.1).symm.trans h.2.1.symm
/-- the program's ends -/
def endw (a b c : Nat) (w : W) : W := negs (Cox.depI (bendT a b c (bitsOf (w.length / 128))) (TT (w.length / 128)) w.reverse)
theorem endw_ok {a b c : Nat} (ha : okOrd a) (hb : okOrd b) (hc : okOrd c) {w : W} (hw : w.length < 1024) (s : Fin 3) : s ∈ endw a b c w ↔ ln (om a b c) w = ln (om a b c) (w ++ [s]) + 1 := by
  have F := fits_at (s := w.length / 128) ha hb hc (by omega)
  rw [← ends_neg F (w := w) (by omega) s]
  unfold endw negs
  rw [List.mem_filter]
  refine ⟨fun h => of_decide_eq_true h.2, fun h => ⟨?_, decide_eq_true h⟩⟩
  have all3 : ∀ s : Fin 3, s ∈ ([0, 1, 2] : List (Fin 3)) := by decide
  exact all3 s
theorem firstNeg_neg {D : Fin 3 → Int} {i : Fin 3} (h : firstNeg D = some i) : D i < 0 := by
  unfold firstNeg at h
  split at h
  · cases h; assumption
  · split at h
    · cases h; assumption
    · split at h
      · cases h; assumption
      · cases h
theorem greedy_none {B : Fin 3 → Fin 3 → Int} {t : Int} {m : Nat} {D : Fin 3 → Int} (h : firstNeg D = none) : greedy B t m D = [] := by
  cases m with
  | zero => rfl
  | succ m =>
    unfold greedy
    rw [h]
theorem greedy_some {B : Fin 3 → Fin 3 → Int} {t : Int} {m : Nat} {D : Fin 3 → Int} {i : Fin 3} (h : firstNeg D = some i) : greedy B t (m + 1) D = i :: greedy B t m (Cox.stepI B t i D) := by
  show (match firstNeg D with | none => [] | some i => i :: greedy B t m (Cox.stepI B t i D)) = _
  rw [h]
theorem wS_ne (i : Fin 3) : (!decide (wS [i] = "")) = true := by
  revert i
  decide +kernel
def spNorm (K : PySem.W.Frag) (C : Addr) : Sp := fun vs H Q _ => ∃ (f o d : Addr) (a b c : Nat) (w : W), vs = [.ref f, .str (wS w)] ∧ FlAt K C H f o d a b c ∧ 2 * w.length < 1024 ∧
  ∀ H', FlAt K C H' f o d a b c → FK.But d H H' → Q (.str (wS (nfw a b c w))) H'
theorem ok_Floor_normal (T : Txt K mg cx) : FK.MHas P w K mg base CX0 5 cx.Floor "normal" ["self", "word"] (spNorm K cx.Floor) := by
  have H_Floor_scale := ok_Floor_scale (P := P) (w := w) (base := base) T
  have H_depths_of := ok_depths_of (P := P) (w := w) (base := base) T
  have H_depths_behind := ok_depths_behind (P := P) (w := w) (base := base) T
  have H_first_far := ok_first_far (P := P) (w := w) (base := base) T
  refine T.d_Floor_normal.ok sc_Floor_normal (fun vs H Q E h => ?_) (fun f cdv A outer s H vs Q E hr h => ?_)
  · obtain ⟨f, o, d, a, b, c, n, rfl, _⟩ := h
    rfl
  · obtain ⟨f, o, d, a, b, c, w, rfl, F, hw, q⟩ := h
    obtain ⟨dx, h1⟩ := F.ob
    refine ⟨_, (pss_cons (ps_set (i := 2) sc_Floor_normal.nd rfl (Or.inl rfl) (by exact (FK.pe_m (E := E0) (pv 0) T.cl_Floor H_Floor_scale (hr.mono (by decide)) pass0 (pa_cons (pe_op op_mulW pe_int (pe_callB call_len_str (by rfl) T.n_len PySem.boot_len (pa_cons (pv 1) pa_nil))) pa_nil))))
  (pss_cons (ps_set (i := 3) sc_Floor_normal.nd rfl (Or.inl rfl) (by exact (FK.pe_h (E := E0) H_depths_of (hr.mono (by decide)) pass0 (pa_cons (pv 2) (pa_cons (pv 1) pa_nil)))))
  (pss_cons (ps_set (i := 4) sc_Floor_normal.nd rfl (Or.inl rfl) (by exact (pe_lst pa_nil)))
  (pss_cons (ps_set (i := 5) sc_Floor_normal.nd rfl (Or.inl rfl) (by exact (FK.pe_h (E := E0) H_first_far (hr.mono (by decide)) pass0 (pa_cons (pv 3) pa_nil))))
  (pss_cons (ps_while PassesOwn.never (pt_cmpR op_ne (pv 5) pe_str (nomark _)) (pss_cons (ps_expr (pe_bm PySem.F.plainAttrs_list PySem.F.slot_list_append PySem.F.type_list_append mt_append (pv 4) (pa_cons (pv 5) pa_nil)))
  (pss_cons (ps_set (i := 3) sc_Floor_normal.nd rfl (Or.inl rfl) (by exact (FK.pe_h (E := E0) H_depths_behind (hr.mono (by decide)) pass0 (pa_cons (pv 2) (pa_cons (pv 3) (pa_cons (pv 5) pa_nil))))))
  (pss_one (ps_set (i := 5) sc_Floor_normal.nd rfl (Or.inl rfl) (by exact (FK.pe_h (E := E0) H_first_far (hr.mono (by decide)) pass0 (pa_cons (pv 3) pa_nil))))))))
  (pss_one (ps_ret (pe_join pe_str (pv 4))))))))), ?_⟩
    simp only [tSeq, tIfS, tOr, tAnd, tB, tTest, tCB, tCons, tVar, tC, tNil, tNot, tNotV, tRet, tRetN, tNext, tBreak, tOrV, tAndV, tOp, tUn, rEq, rNe, tChain, rI0, rI, rU, tAsg, gName, tDrop, tAug, ipI, tIf, tCall, tCallS, tLst, tTup, tBM, tBM0, rAppend, rExtend, rPop, rReverse, tyV, rIxL, rIxT, rIxS, rIsB, rNotB, L2.start, List.map_cons, List.map_nil, List.length_cons, List.length_nil, List.replicate, List.cons_append, List.nil_append, List.append_nil, List.getElem?_cons_zero, List.getElem?_cons_succ, List.set_cons_zero, List.set_cons_succ, Nat.reduceAdd, Nat.reduceSub, Option.some.injEq, exists_eq_left', exists_eq_left, V.int.injEq, V.bl.injEq, V.str.injEq, V.ref.injEq, List.cons.injEq, and_true, true_and, and_assoc, reduceCtorEq, false_and, exists_false, or_false, false_or, exists_and_left, exists_const, scal, Int.reduceLT, Int.reduceLE, Int.reduceSub, Int.reduceAdd, Int.reduceNeg, if_true, if_false, tMeth]
    have ez : (wS w).length = w.length := wS_len w
    have zl : ∀ n : Nat, n ≤ 2000 → n ≤ sizeLine := fun n h => Nat.le_trans h (by decide)
    refine ⟨dx, _, h1, fldsF_no _ _ (by decide +kernel) (by decide +kernel), zl _ (by omega), wide_mul (a := 2) (b := 30) (by decide) (by omega) (by decide) (by decide) (by decide), f, o, d, a, b, c, 2 * w.length, by rw [ez]; rfl, F, hw, fun sc H1 F1 b1 hsc => ?_⟩
    obtain ⟨S, hS⟩ : ∃ S, S = 2 * w.length / 128 := ⟨_, rfl⟩
    rw [← hS] at hsc
    have hS8 : S < 8 := by omega
    have Ft := fits_at (s := S) F.ha F.hb F.hc hS8
    have hK : 2 * w.length ≤ 128 * (S + 1) := by omega
    refine ⟨sc, a, b, c, S, w, rfl, hsc, hS8, F.ha, F.hb, F.hc, by omega, fun p0 H2 s2 hp0 e2 => ⟨zl _ (by omega), fun L hL => ?_⟩⟩
    have hL1 : H1 L = none := back s2 hL
    refine ⟨p0, _, rfl, by rw [upd_ne (fun z => by rw [z, hL] at e2; cases e2)]; exact e2, fun H3 s3 => ?_⟩
    have s13 : Same H1 H3 := (s2.trans (FK.same_new hL)).trans s3
    have enf : nfw a b c w = greedy (bendT a b c (bitsOf S)) (TT S) w.length (Cox.depI (bendT a b c (bitsOf S)) (TT S) w) := by rw [hS]; rfl
    refine rd_while (fun m σ H' => ∃ (u acc : W) (p : Addr), σ = [some (.ref f), some (.str (wS w)), some (.ref sc), some (.ref p), some (.ref L), some (.str (match firstNeg (Cox.depI (bendT a b c (bitsOf S)) (TT S) u) with | none => "" | some i => wS [i]))] ∧
        Same H1 H' ∧ H' L = some (.lst ((acc.map fun i => wS [i]).map V.str)) ∧ H' p = some (.tup (v3i (Cox.depI (bendT a b c (bitsOf S)) (TT S) u))) ∧ ln (om a b c) u ≤ m ∧ u.length + m ≤ 128 * (S + 1) ∧ u.length + m ≤ 2000 ∧ acc.length + m = w.length ∧
        nfw a b c w = acc ++ greedy (bendT a b c (bitsOf S)) (TT S) m (Cox.depI (bendT a b c (bitsOf S)) (TT S) u)) w.length
      ⟨w, [], p0, rfl, s13, s3 _ _ upd_same, s3 _ _ (by rw [upd_ne (fun z => by rw [z, hL] at e2; cases e2)]; exact e2), ln_self w, by omega, by omega, by simp, enf⟩ ?_ (fun σ H Q Q' hQ h => by
        simp only [tSeq, tIfS, tOr, tAnd, tB, tTest, tCB, tCons, tVar, tC, tNil, tNot, tNotV, tRet, tRetN, tNext, tBreak, tOrV, tAndV, tOp, tUn, rEq, rNe, tChain, rI0, rI, rU, tAsg, gName, tDrop, tAug, ipI, tIf, tCall, tCallS, tLst, tTup, tBM, tBM0, rAppend, rExtend, rPop, rReverse, tyV, rIxL, rIxT, rIxS, rIsB, rNotB, L2.start, List.map_cons, List.map_nil, List.length_cons, List.length_nil, List.replicate, List.cons_append, List.nil_append, List.append_nil, List.getElem?_cons_zero, List.getElem?_cons_succ, List.set_cons_zero, List.set_cons_succ, Nat.reduceAdd, Nat.reduceSub, Option.some.injEq, exists_eq_left', exists_eq_left, V.int.injEq, V.bl.injEq, V.str.injEq, V.ref.injEq, List.cons.injEq, and_true, true_and, and_assoc, reduceCtorEq, false_and, exists_false, or_false, false_or, exists_and_left, exists_const, scal, Int.reduceLT, Int.reduceLE, Int.reduceSub, Int.reduceAdd, Int.reduceNeg, if_true, if_false] at h ⊢
        obtain ⟨v, a1, a2, a3⟩ := h
        exact ⟨v, a1, a2, hQ _ _ a3⟩)
    rintro m σ H4 ⟨u, acc, p, rfl, s4, eL, ep, n1, n2, n3, n4, en⟩
    simp only [tSeq, tIfS, tOr, tAnd, tB, tTest, tCB, tCons, tVar, tC, tNil, tNot, tNotV, tRet, tRetN, tNext, tBreak, tOrV, tAndV, tOp, tUn, rEq, rNe, tChain, rI0, rI, rU, tAsg, gName, tDrop, tAug, ipI, tIf, tCall, tCallS, tLst, tTup, tBM, tBM0, rAppend, rExtend, rPop, rReverse, tyV, rIxL, rIxT, rIxS, rIsB, rNotB, L2.start, List.map_cons, List.map_nil, List.length_cons, List.length_nil, List.replicate, List.cons_append, List.nil_append, List.append_nil, List.getElem?_cons_zero, List.getElem?_cons_succ, List.set_cons_zero, List.set_cons_succ, Nat.reduceAdd, Nat.reduceSub, Option.some.injEq, exists_eq_left', exists_eq_left, V.int.injEq, V.bl.injEq, V.str.injEq, V.ref.injEq, List.cons.injEq, and_true, true_and, and_assoc, reduceCtorEq, false_and, exists_false, or_false, false_or, exists_and_left, exists_const, scal, Int.reduceLT, Int.reduceLE, Int.reduceSub, Int.reduceAdd, Int.reduceNeg, if_true, if_false]
    have n5 : u.length ≤ 128 * (S + 1) := by omega
    cases eF : firstNeg (Cox.depI (bendT a b c (bitsOf S)) (TT S) u) with
    | none =>
      refine iteF' (by decide +kernel) ?_
      rw [greedy_none eF, List.append_nil] at en
      refine ⟨⟨_, rfl⟩, _, rfl, "", rfl, L, rfl, acc.map fun i => wS [i], .inl (SqL.of eL), ?_, ?_⟩
      · rw [sum_wS]
        have h2 : (acc.map fun i => wS [i]).length * ("" : Str).length = 0 := Nat.mul_zero _
        omega
      · rw [join_wS, ← en]
        exact q H4 (F1.same s4) (b1.trans (.of s4))
    | some i =>
      refine iteT' (wS_ne i) ?_
      have hneg := firstNeg_neg eF
      have hln := (neg_iff Ft n5 i).mp hneg
      obtain ⟨m', rfl⟩ : ∃ m', m = m' + 1 := ⟨m - 1, by omega⟩
      have eg : greedy (bendT a b c (bitsOf S)) (TT S) (m' + 1) (Cox.depI (bendT a b c (bitsOf S)) (TT S) u) = i :: greedy (bendT a b c (bitsOf S)) (TT S) m' (Cox.depI (bendT a b c (bitsOf S)) (TT S) (i :: u)) := greedy_some eF
      rw [eg] at en
      simp only [tSeq, tIfS, tOr, tAnd, tB, tTest, tCB, tCons, tVar, tC, tNil, tNot, tNotV, tRet, tRetN, tNext, tBreak, tOrV, tAndV, tOp, tUn, rEq, rNe, tChain, rI0, rI, rU, tAsg, gName, tDrop, tAug, ipI, tIf, tCall, tCallS, tLst, tTup, tBM, tBM0, rAppend, rExtend, rPop, rReverse, tyV, rIxL, rIxT, rIxS, rIsB, rNotB, L2.start, List.map_cons, List.map_nil, List.length_cons, List.length_nil, List.replicate, List.cons_append, List.nil_append, List.append_nil, List.getElem?_cons_zero, List.getElem?_cons_succ, List.set_cons_zero, List.set_cons_succ, Nat.reduceAdd, Nat.reduceSub, Option.some.injEq, exists_eq_left', exists_eq_left, V.int.injEq, V.bl.injEq, V.str.injEq, V.ref.injEq, List.cons.injEq, and_true, true_and, and_assoc, reduceCtorEq, false_and, exists_false, or_false, false_or, exists_and_left, exists_const, scal, Int.reduceLT, Int.reduceLE, Int.reduceSub, Int.reduceAdd, Int.reduceNeg, if_true, if_false]
      refine ⟨.inl ⟨_, SqL.of eL⟩, _, eL, ?_, ?_⟩
      · rw [List.length_map, List.length_map]
        exact Nat.lt_of_le_of_lt (show acc.length ≤ 2000 by omega) (by show 2000 < 16777216; decide)
      have s5 : Same H1 (upd H4 L (.lst (((acc.map fun i => wS [i]).map V.str) ++ [.str (wS [i])]))) := FK.same_at hL1 s4
      have npL : p ≠ L := fun z => by rw [z, eL] at ep; cases ep
      refine ⟨sc, p, a, b, c, S, _, i, rfl, hsc.same s5, hS8, F.ha, F.hb, F.hc, by rw [upd_ne npL]; exact ep, fun j => depI_small hS8 F.ha F.hb F.hc (by omega) j, fun p2 H5 s6 hp2 e5 => ?_⟩
      refine ⟨p2, _, rfl, e5, fun H6 s7 => ?_⟩
      refine ⟨m', by omega, i :: u, acc ++ [i], p2, rfl, rfl, (s5.trans s6).trans s7, ?_, s7 _ _ e5, by omega, by rw [List.length_cons]; omega, by rw [List.length_cons]; omega, by rw [List.length_append, List.length_singleton]; omega, ?_⟩
      · rw [List.map_append, List.map_append]
        exact s7 _ _ (s6 _ _ upd_same)
      · rw [en, List.append_assoc]
        rfl
/-- the orders of a floor, in the heap -/
def spNormal (K : PySem.W.Frag) (CO CW : Addr) : Sp := fun vs H Q E => ∃ (o : Addr) (ns : List Int) (x : Str), vs = [.ref o, .str x] ∧ SqT K H o (ns.map V.int) ∧ x.length < sizeLine ∧
  (okOrders ns = false → ∀ H', Same H H' → E (.ref CO) none H') ∧ (okOrders ns = true → okWord x 60 = false → ∀ H', Same H H' → E (.ref CW) none H') ∧
  (okOrders ns = true → okWord x 60 = true → ∀ (a b c : Nat) (w : W) H', ns = [(a : Int), (b : Int), (c : Int)] → okOrd a → okOrd b → okOrd c → x = wS w → w.length ≤ 60 → Same H H' → Q (.str (wS (nfw a b c w))) H')
theorem okOrd_of {n : Int} (h : okOrder n = true) : ∃ a : Nat, n = (a : Int) ∧ okOrd a := by
  have hb := okOrder_bound h
  refine ⟨n.toNat, by omega, ?_⟩
  unfold okOrder at h
  simp only [Bool.or_eq_true, Bool.and_eq_true, decide_eq_true_eq] at h
  unfold okOrd
  omega
theorem orders_of {ns : List Int} (h : okOrders ns = true) : ∃ a b c : Nat, ns = [(a : Int), (b : Int), (c : Int)] ∧ okOrd a ∧ okOrd b ∧ okOrd c := by
  obtain ⟨m0, m1, m2, rfl⟩ := len3 h
  unfold okOrders at h
  rw [Bool.and_eq_true] at h
  have h2 := List.all_eq_true.mp h.2
  obtain ⟨a, rfl, ha⟩ := okOrd_of (h2 m0 (by simp))
  obtain ⟨b, rfl, hb⟩ := okOrd_of (h2 m1 (by simp))
  obtain ⟨c, rfl, hc⟩ := okOrd_of (h2 m2 (by simp))
  exact ⟨a, b, c, rfl, ha, hb, hc⟩
theorem word_ok {x : Str} {m : Int} (h : okWord x m = true) : ∃ w, x = wS w ∧ (w.length : Int) ≤ m := by
  unfold okWord at h
  rw [Bool.and_eq_true] at h
  obtain ⟨w, rfl⟩ := word_of (x := x) fun c hc => List.all_eq_true.mp h.2 c hc
  have := of_decide_eq_true h.1
  rw [wS_len] at this
  exact ⟨w, rfl, this⟩
theorem okWord_wS {w : W} {m : Int} (h : (w.length : Int) ≤ m) : okWord (wS w) m = true := by
  unfold okWord
  rw [wS_len, decide_eq_true h, Bool.true_and, List.all_eq_true]
  intro c hc
  rw [wS_list] at hc
  obtain ⟨i, _, rfl⟩ := List.mem_map.mp hc
  exact Cox.is_letter i
/-- what stands behind Floor(orders) -/
theorem floor_new {C : Addr} {H H4 : Hp} {f o d dx : Addr} {a b c : Nat} (hS : SqT K H o [.int (a : Int), .int (b : Int), .int (c : Int)]) (ha : okOrd a) (hb : okOrd b) (hc : okOrd c) (hf : H f = none) (hdx : H dx = none)
    (hd : upd (upd H dx (.own f)) f (.ins C dx []) d = none) (e1 : H4 f = some (.ins C dx (fldsF o d))) (e2 : H4 d = some (.dK [])) (kp : ∀ b u, upd (upd H dx (.own f)) f (.ins C dx []) b = some u → b ≠ f → H4 b = some u) :
    FlAt K C H4 f o d a b c ∧ Same H H4 ∧ H d = none := by
  have nf : ∀ b u, H b = some u → b ≠ f := fun b u e z => by rw [z, hf] at e; cases e
  have ndx : ∀ b u, H b = some u → b ≠ dx := fun b u e z => by rw [z, hdx] at e; cases e
  have s : Same H H4 := fun b u e => kp b u (by rw [upd_ne (nf b u e), upd_ne (ndx b u e)]; exact e) (nf b u e)
  refine ⟨⟨⟨dx, e1⟩, FK.Same.tupS s hS, ha, hb, hc, [], e2, List.nodup_nil, fun _ h => nomatch h⟩, s, ?_⟩
  cases e : H d with
  | none => rfl
  | some u =>
    rw [upd_ne (nf d u e), upd_ne (ndx d u e), e] at hd
    cases hd
theorem but_same {H H4 H5 : Hp} {d : Addr} (s : Same H H4) (hd : H d = none) (b : FK.But d H4 H5) : Same H H5 := fun x u e => b x u (fun z => by rw [z, hd] at e; cases e) (s x u e)
def spLength (K : PySem.W.Frag) (CO CW : Addr) : Sp := fun vs H Q E => ∃ (o : Addr) (ns : List Int) (x : Str), vs = [.ref o, .str x] ∧ SqT K H o (ns.map V.int) ∧ x.length < sizeLine ∧
  (okOrders ns = false → ∀ H', Same H H' → E (.ref CO) none H') ∧ (okOrders ns = true → okWord x 60 = false → ∀ H', Same H H' → E (.ref CW) none H') ∧
  (okOrders ns = true → okWord x 60 = true → ∀ (a b c : Nat) (w : W) H', ns = [(a : Int), (b : Int), (c : Int)] → okOrd a → okOrd b → okOrd c → x = wS w → w.length ≤ 60 → Same H H' → Q (.int ((nfw a b c w).length : Nat)) H')
theorem nfw_len {a b c : Nat} (ha : okOrd a) (hb : okOrd b) (hc : okOrd c) {w : W} (hw : w.length ≤ 60) : (nfw a b c w).length ≤ 60 := by
  have := (nfw_ok ha hb hc (w := w) (by omega)).2.2.1
  have h2 := ln_self (m := om a b c) w
  omega
def spShortest (K : PySem.W.Frag) (CO CW : Addr) : Sp := fun vs H Q E => ∃ (o : Addr) (ns : List Int) (x : Str), vs = [.ref o, .str x] ∧ SqT K H o (ns.map V.int) ∧ x.length < sizeLine ∧
  (okOrders ns = false → ∀ H', Same H H' → E (.ref CO) none H') ∧ (okOrders ns = true → okWord x 60 = false → ∀ H', Same H H' → E (.ref CW) none H') ∧
  (okOrders ns = true → okWord x 60 = true → ∀ (a b c : Nat) (w : W) H', ns = [(a : Int), (b : Int), (c : Int)] → okOrd a → okOrd b → okOrd c → x = wS w → w.length ≤ 60 → Same H H' → Q (.bl (decide ((nfw a b c w).length = w.length))) H')
def spEnds (K : PySem.W.Frag) (CO CW : Addr) : Sp := fun vs H Q E => ∃ (o : Addr) (ns : List Int) (x : Str), vs = [.ref o, .str x] ∧ SqT K H o (ns.map V.int) ∧ x.length < sizeLine ∧
  (okOrders ns = false → ∀ H', Same H H' → E (.ref CO) none H') ∧ (okOrders ns = true → okWord x 60 = false → ∀ H', Same H H' → E (.ref CW) none H') ∧
  (okOrders ns = true → okWord x 60 = true → ∀ (a b c : Nat) (w : W) H', ns = [(a : Int), (b : Int), (c : Int)] → okOrd a → okOrd b → okOrd c → x = wS w → w.length ≤ 60 → Same H H' → Q (.str (wS (endw a b c w))) H')

def lt3 (v : Int) : Fin 3 := ⟨(v % 3).toNat, by have := Int.emod_nonneg v (show (3 : Int) ≠ 0 by decide); have := Int.emod_lt_of_pos v (show (0 : Int) < 3 by decide); omega⟩
theorem at_lt3 (v : Int) : atI ("012" : Str).cps.toList (v % 3) = some (48 + (lt3 v).1) := by
  have h0 := Int.emod_nonneg v (show (3 : Int) ≠ 0 by decide)
  have h1 := Int.emod_lt_of_pos v (show (0 : Int) < 3 by decide)
  show _ = some (48 + (v % 3).toNat)
  generalize v % 3 = y at h0 h1 ⊢
  obtain ⟨k, rfl⟩ := Int.eq_ofNat_of_zero_le h0
  match k, h1 with
  | 0, _ => rfl
  | 1, _ => rfl
  | 2, _ => rfl
theorem cut_ints {zs : List Int} (h : 1 ≤ zs.length) (hi : Option Int) : ∃ sl : List Int, cutV (zs.map V.int) (some 1) hi = sl.map V.int ∧ sl.length ≤ zs.length - 1 := by
  refine ⟨(zs.drop (HT.sIx zs.length 0 (some 1))).take (HT.sIx zs.length zs.length hi - HT.sIx zs.length 0 (some 1)), ?_, ?_⟩
  · unfold cutV
    rw [List.length_map, List.map_take, List.map_drop]
  · rw [List.length_take, List.length_drop, show HT.sIx zs.length 0 (some 1) = 1 from sIx_nat zs.length 0 1 h]
    omega
theorem kinds8 {r : Int} (h0 : 0 ≤ r) (h1 : r < 8) : ∃ n : Nat, atI [V.int 3, V.int 2, V.int 4, V.int 5, V.int 3, V.int 7, V.int 0, V.int 6] r = some (.int (n : Int)) ∧ okOrd n := by
  obtain ⟨v, hv, hm⟩ := atI_mem (cs := [V.int 3, V.int 2, V.int 4, V.int 5, V.int 3, V.int 7, V.int 0, V.int 6]) h0 (by show r < 8; exact h1)
  have lit : ∀ n : Nat, (n = 0 ∨ 2 ≤ n ∧ n ≤ 12) → v = .int (n : Int) → ∃ n : Nat, atI [V.int 3, V.int 2, V.int 4, V.int 5, V.int 3, V.int 7, V.int 0, V.int 6] r = some (.int (n : Int)) ∧ okOrd n := fun n h e => ⟨n, by rw [hv, e], h⟩
  simp only [List.mem_cons, List.not_mem_nil, or_false] at hm
  rcases hm with e | e | e | e | e | e | e | e
  · exact lit 3 (by omega) e
  · exact lit 2 (by omega) e
  · exact lit 4 (by omega) e
  · exact lit 5 (by omega) e
  · exact lit 3 (by omega) e
  · exact lit 7 (by omega) e
  · exact lit 0 (by omega) e
  · exact lit 6 (by omega) e
def spLawOrders : Sp := fun vs H Q _ => ∃ i : Int, vs = [.int i] ∧ ∀ (o : Addr) (a b c : Nat) H', okOrd a → okOrd b → okOrd c → H o = none → H' o = some (.tup [.int (a : Int), .int (b : Int), .int (c : Int)]) → Same H H' → Q (.ref o) H'
theorem ok_law_orders (T : Txt K mg cx) : FK.Has P w K mg base CX0 1 "_law_orders" ["cell"] spLawOrders := by
  refine T.d_law_orders.ok sc_law_orders (fun vs H Q E h => ?_) (fun f cdv A outer s H vs Q E hr h => ?_)
  · obtain ⟨n, rfl, _⟩ := h
    rfl
  · obtain ⟨i, rfl, q⟩ := h
    refine ⟨_, (pss_cons (ps_set (i := 1) sc_law_orders.nd rfl (Or.inl rfl) (by exact (pe_lst (pa_cons pe_int (pa_cons pe_int (pa_cons pe_int (pa_cons pe_int (pa_cons pe_int (pa_cons pe_int (pa_cons pe_int (pa_cons pe_int pa_nil)))))))))))
  (pss_one (ps_ret (pe_tup (pa_cons (pe_ix (r := rIxL K) ix_list (pv 1) (pe_op op_mod (pv 0) pe_int) (fun _ _ => rfl)) (pa_cons (pe_ix (r := rIxL K) ix_list (pv 1) (pe_op op_mod (pe_op op_fdiv (pv 0) pe_int) pe_int) (fun _ _ => rfl)) (pa_cons (pe_ix (r := rIxL K) ix_list (pv 1) (pe_op op_mod (pe_op op_fdiv (pv 0) pe_int) pe_int) (fun _ _ => rfl)) pa_nil))))))), ?_⟩
    simp only [tSeq, tIfS, tOr, tAnd, tB, tTest, tCB, tCons, tVar, tC, tNil, tNot, tNotV, tRet, tRetN, tNext, tBreak, tOrV, tAndV, tOp, tUn, rEq, rNe, tChain, rI0, rI, rU, tAsg, gName, tDrop, tAug, ipI, tIf, tCall, tCallS, tLst, tTup, tBM, tBM0, rAppend, rExtend, rPop, rReverse, tyV, rIxL, rIxT, rIxS, rIsB, rNotB, L2.start, List.map_cons, List.map_nil, List.length_cons, List.length_nil, List.replicate, List.cons_append, List.nil_append, List.append_nil, List.getElem?_cons_zero, List.getElem?_cons_succ, List.set_cons_zero, List.set_cons_succ, Nat.reduceAdd, Nat.reduceSub, Option.some.injEq, exists_eq_left', exists_eq_left, V.int.injEq, V.bl.injEq, V.str.injEq, V.ref.injEq, List.cons.injEq, and_true, true_and, and_assoc, reduceCtorEq, false_and, exists_false, or_false, false_or, exists_and_left, exists_const, scal, Int.reduceLT, Int.reduceLE, Int.reduceSub, Int.reduceAdd, Int.reduceNeg, if_true, if_false]
    have m8 : ∀ y : Int, 0 ≤ y % 8 ∧ y % 8 < 8 := fun y => ⟨Int.emod_nonneg _ (by decide), Int.emod_lt_of_pos _ (by decide)⟩
    refine ⟨by decide, fun L hL => ?_⟩
    obtain ⟨a, ea, ha⟩ := kinds8 (m8 i).1 (m8 i).2
    obtain ⟨b, eb, hb⟩ := kinds8 (m8 (i / 8)).1 (m8 (i / 8)).2
    obtain ⟨c, ec, hc⟩ := kinds8 (m8 (i / 64)).1 (m8 (i / 64)).2
    have S := SqL.of (K := K) (upd_same (H := H) (a := L) (o := HO.lst [V.int 3, V.int 2, V.int 4, V.int 5, V.int 3, V.int 7, V.int 0, V.int 6]))
    exact ⟨_, S, _, ea, ⟨by decide, by decide⟩, _, S, _, eb, ⟨by decide, by decide⟩, _, S, _, ec, by decide, fun p hp => q p a b c _ ha hb hc (back (FK.same_new hL) hp) upd_same ((FK.same_new hL).trans (FK.same_new hp))⟩
def spLawWord : Sp := fun vs H Q _ => ∃ (i : Int) (m : Nat), vs = [.int i, .int (m : Int)] ∧ m ≤ 50 ∧ ∀ (u : W) H', u.length ≤ m → Same H H' → Q (.str (wS u)) H'
theorem ok_law_word (T : Txt K mg cx) : FK.Has P w K mg base CX0 2 "_law_word" ["cell", "most"] spLawWord := by
  have H_law_values := ok_law_values (P := P) (w := w) (base := base) T
  refine T.d_law_word.ok sc_law_word (fun vs H Q E h => ?_) (fun f cdv A outer s H vs Q E hr h => ?_)
  · obtain ⟨d, m, rfl, _⟩ := h
    rfl
  · obtain ⟨i, m, rfl, hm, q⟩ := h
    refine ⟨_, (pss_cons (ps_set (i := 2) sc_law_word.nd rfl (Or.inl rfl) (by exact (FK.pe_h (E := E0) H_law_values (hr.mono (by decide)) pass0 (pa_cons (pv 0) (pa_cons (pe_op op_add (pv 1) pe_int) (pa_cons pe_int pa_nil))))))
  (pss_one (ps_ret (pe_join pe_str (pe_lc (own := [("value", 3)]) (g := gName 3) (tt := tYes) rfl sc_law_word.nd (pi_list (pe_slice sl_list (pv 2) (po_some pe_int) (po_some (pe_op op_add pe_int (pe_op op_mod (pe_ix (r := rIxL K) ix_list (pv 2) pe_int (fun _ _ => rfl)) (pe_op op_add (pv 1) pe_int)))))) (blkOk_by (own := [("value", 3)]) (N := ["cell", "most", "values", "value"]) (sc := defScope s_law_word) (by decide +kernel)) (fun _ _ _ _ _ => (pg_name (i := 3) sc_law_word.nd rfl (Or.inl rfl))) (fun _ _ _ _ _ => pts_nil) (fun _ _ _ _ _ => (pe_ix ix_str pe_str (pe_op op_mod (pv 3) pe_int) (fun _ _ => rfl)))))))), ?_⟩
    simp only [tSeq, tIfS, tOr, tAnd, tB, tTest, tCB, tCons, tVar, tC, tNil, tNot, tNotV, tRet, tRetN, tNext, tBreak, tOrV, tAndV, tOp, tUn, rEq, rNe, tChain, rI0, rI, rU, tAsg, gName, tDrop, tAug, ipI, tIf, tCall, tCallS, tLst, tTup, tBM, tBM0, rAppend, rExtend, rPop, rReverse, tyV, rIxL, rIxT, rIxS, rIsB, rNotB, L2.start, List.map_cons, List.map_nil, List.length_cons, List.length_nil, List.replicate, List.cons_append, List.nil_append, List.append_nil, List.getElem?_cons_zero, List.getElem?_cons_succ, List.set_cons_zero, List.set_cons_succ, Nat.reduceAdd, Nat.reduceSub, Option.some.injEq, exists_eq_left', exists_eq_left, V.int.injEq, V.bl.injEq, V.str.injEq, V.ref.injEq, List.cons.injEq, and_true, true_and, and_assoc, reduceCtorEq, false_and, exists_false, or_false, false_or, exists_and_left, exists_const, scal, Int.reduceLT, Int.reduceLE, Int.reduceSub, Int.reduceAdd, Int.reduceNeg, if_true, if_false]
    refine ⟨i, m + 1, by rfl, by omega, fun L zs H1 hL s1 eL lz hz => ?_⟩
    simp only [tSeq, tIfS, tOr, tAnd, tB, tTest, tCB, tCons, tVar, tC, tNil, tNot, tNotV, tRet, tRetN, tNext, tBreak, tOrV, tAndV, tOp, tUn, rEq, rNe, tChain, rI0, rI, rU, tAsg, gName, tDrop, tAug, ipI, tIf, tCall, tCallS, tLst, tTup, tBM, tBM0, rAppend, rExtend, rPop, rReverse, tyV, rIxL, rIxT, rIxS, rIsB, rNotB, L2.start, List.map_cons, List.map_nil, List.length_cons, List.length_nil, List.replicate, List.cons_append, List.nil_append, List.append_nil, List.getElem?_cons_zero, List.getElem?_cons_succ, List.set_cons_zero, List.set_cons_succ, Nat.reduceAdd, Nat.reduceSub, Option.some.injEq, exists_eq_left', exists_eq_left, V.int.injEq, V.bl.injEq, V.str.injEq, V.ref.injEq, List.cons.injEq, and_true, true_and, and_assoc, reduceCtorEq, false_and, exists_false, or_false, false_or, exists_and_left, exists_const, scal, Int.reduceLT, Int.reduceLE, Int.reduceSub, Int.reduceAdd, Int.reduceNeg, if_true, if_false]
    refine ⟨⟨_, rfl⟩, FK.lc_lst ?_⟩
    simp only [tSeq, tIfS, tOr, tAnd, tB, tTest, tCB, tCons, tVar, tC, tNil, tNot, tNotV, tRet, tRetN, tNext, tBreak, tOrV, tAndV, tOp, tUn, rEq, rNe, tChain, rI0, rI, rU, tAsg, gName, tDrop, tAug, ipI, tIf, tCall, tCallS, tLst, tTup, tBM, tBM0, rAppend, rExtend, rPop, rReverse, tyV, rIxL, rIxT, rIxS, rIsB, rNotB, L2.start, List.map_cons, List.map_nil, List.length_cons, List.length_nil, List.replicate, List.cons_append, List.nil_append, List.append_nil, List.getElem?_cons_zero, List.getElem?_cons_succ, List.set_cons_zero, List.set_cons_succ, Nat.reduceAdd, Nat.reduceSub, Option.some.injEq, exists_eq_left', exists_eq_left, V.int.injEq, V.bl.injEq, V.str.injEq, V.ref.injEq, List.cons.injEq, and_true, true_and, and_assoc, reduceCtorEq, false_and, exists_false, or_false, false_or, exists_and_left, exists_const, scal, Int.reduceLT, Int.reduceLE, Int.reduceSub, Int.reduceAdd, Int.reduceNeg, if_true, if_false, tSl, tPart, rSlL]
    obtain ⟨z0, ez0, hz0⟩ : ∃ z0, atI (zs.map V.int) 0 = some (.int z0) ∧ z0 ∈ zs := by
      have h0 : 0 < zs.length := by omega
      exact ⟨zs[0], atI_nat (j := 0) (by rw [List.getElem?_map, List.getElem?_eq_getElem h0]; rfl), List.getElem_mem h0⟩
    have S := SqL.of (K := K) eL
    refine ⟨_, S, _, ez0, _, rfl, by omega, _, S, fun p hp => ?_⟩
    obtain ⟨sl, el, ll⟩ := cut_ints (zs := zs) (by omega) (some (1 + z0 % ((m : Int) + 1)))
    rw [el]
    refine ⟨⟨_, SqL.of upd_same⟩, ?_⟩
    have hn : (((sl.map lt3).map fun i => wS [i]).map V.str).length = (sl.map V.int).length := by simp
    refine FK.rd_lc_same (J := Itl K p) (H1 := upd H1 p (.lst (sl.map V.int))) (((sl.map lt3).map fun i => wS [i]).map V.str) (fun R r => r) (by rw [hn]; exact walk_list (xs := sl.map V.int)) (fun H' s' => SqL.of (s' _ _ upd_same)) (by rw [hn, List.length_map]; exact Nat.lt_of_le_of_lt (show sl.length ≤ 100 by omega) (by decide)) (fun _ => rfl) ?_ ?_ (fun _ _ _ _ (z : _ ∧ _) => by rw [z.1]; exact Same.refl _)
    · rintro j x z H' H'' R hz2 s' ⟨rfl, hx⟩ go
      rw [List.getElem?_map, List.getElem?_map, List.getElem?_map] at hz2
      rw [List.getElem?_map] at hx
      cases e : sl[j]? with
      | none => rw [e] at hx; cases hx
      | some v =>
        rw [e] at hx hz2
        cases hx
        cases hz2
        simp only [tSeq, tIfS, tOr, tAnd, tB, tTest, tCB, tCons, tVar, tC, tNil, tNot, tNotV, tRet, tRetN, tNext, tBreak, tOrV, tAndV, tOp, tUn, rEq, rNe, tChain, rI0, rI, rU, tAsg, gName, tDrop, tAug, ipI, tIf, tCall, tCallS, tLst, tTup, tBM, tBM0, rAppend, rExtend, rPop, rReverse, tyV, rIxL, rIxT, rIxS, rIsB, rNotB, L2.start, List.map_cons, List.map_nil, List.length_cons, List.length_nil, List.replicate, List.cons_append, List.nil_append, List.append_nil, List.getElem?_cons_zero, List.getElem?_cons_succ, List.set_cons_zero, List.set_cons_succ, Nat.reduceAdd, Nat.reduceSub, Option.some.injEq, exists_eq_left', exists_eq_left, V.int.injEq, V.bl.injEq, V.str.injEq, V.ref.injEq, List.cons.injEq, and_true, true_and, and_assoc, reduceCtorEq, false_and, exists_false, or_false, false_or, exists_and_left, exists_const, scal, Int.reduceLT, Int.reduceLE, Int.reduceSub, Int.reduceAdd, Int.reduceNeg, if_true, if_false, wipe]
        exact ⟨by decide, _, at_lt3 v, go _ (Same.refl _)⟩
    · intro D H' hD s' hD2
      refine ⟨D, rfl, (sl.map lt3).map fun i => wS [i], .inl (SqL.of hD2), ?_, ?_⟩
      · rw [sum_wS]
        have h2 : ((sl.map lt3).map fun i => wS [i]).length * ("" : Str).length = 0 := Nat.mul_zero _
        rw [List.length_map]
        omega
      · rw [join_wS]
        exact q (sl.map lt3) H' (by rw [List.length_map]; omega) ((s1.trans (FK.same_new hp)).trans s')

end
end K32

namespace K32
open PySem PySem.Spec PyProof.Rows L2 Cox
section
variable {P : Program} {w : World} {K : PySem.W.Frag} {mg : Str → Option Value} {base : Heap} {cx : Xs}
theorem zl : ∀ n : Nat, n ≤ 2000 → n ≤ sizeLine := fun n h => Nat.le_trans h (by decide)
theorem zw {u : W} (h : u.length ≤ 2000) : (wS u).length ≤ sizeLine := by rw [wS_len]; exact zl _ h

theorem okOrders_of {a b c : Nat} (ha : okOrd a) (hb : okOrd b) (hc : okOrd c) : okOrders [(a : Int), (b : Int), (c : Int)] = true := by
  have one : ∀ {n : Nat}, okOrd n → okOrder (n : Int) = true := fun {n} h => by
    unfold okOrder
    simp only [Bool.or_eq_true, Bool.and_eq_true, decide_eq_true_eq]
    rcases h with h | h <;> omega
  unfold okOrders
  simp [one ha, one hb, one hc]

theorem nfw_congr {a b c : Nat} (ha : okOrd a) (hb : okOrd b) (hc : okOrd c) {u v : W} (hu : u.length ≤ 500) (hv : v.length ≤ 500) (h : Eqv (om a b c) u v) : nfw a b c u = nfw a b c v := by
  have h1 := nfw_ok ha hb hc (w := u) (by omega)
  have h2 := nfw_ok ha hb hc (w := v) (by omega)
  have e : (nfw a b c u).length = (nfw a b c v).length := by rw [h1.2.2.1, h2.2.2.1, ln_eqv h]
  exact lx_antisymm e (h1.2.2.2 _ h2.2.1 (h.trans h2.1)) (h2.2.2.2 _ h1.2.1 (h.symm.trans h1.1))
/-- the letters of three orders, with what is known of them -/
structure Og (K : PySem.W.Frag) (H : Hp) (o : Addr) (a b c : Nat) : Prop where
  ob : H o = some (.tup [.int (a : Int), .int (b : Int), .int (c : Int)])
  ha : okOrd a
  hb : okOrd b
  hc : okOrd c
theorem Og.same {H H' : Hp} {o : Addr} {a b c : Nat} (h : Og K H o a b c) (s : Same H H') : Og K H' o a b c := ⟨s _ _ h.ob, h.ha, h.hb, h.hc⟩
theorem Og.ok {H : Hp} {o : Addr} {a b c : Nat} (h : Og K H o a b c) : okOrders [(a : Int), (b : Int), (c : Int)] = true := okOrders_of h.ha h.hb h.hc
theorem inj3 {a b c a' b' c' : Nat} (h : [(a : Int), (b : Int), (c : Int)] = [(a' : Int), (b' : Int), (c' : Int)]) : a = a' ∧ b = b' ∧ c = c' := by
  simp only [List.cons.injEq, and_true, Int.natCast_inj] at h
  exact h
theorem szw {u : W} (h : u.length ≤ 500) : (wS u).length < sizeLine := by rw [wS_len]; exact Nat.lt_of_le_of_lt h (by show 500 < 16777216; decide)
def spN1 (K : PySem.W.Frag) : Sp := fun vs H Q _ => ∃ (o : Addr) (a b c : Nat) (u : W), vs = [.ref o, .str (wS u)] ∧ Og K H o a b c ∧ u.length ≤ 60 ∧ ∀ H', Same H H' → Q (.str (wS (nfw a b c u))) H'
theorem imp_normal {C D : Addr} : ∀ vs H Q E, spN1 K vs H Q E → spNormal K C D vs H Q E := by
  rintro vs H Q E ⟨o, a, b, c, u, rfl, g, hu, q⟩
  refine ⟨o, _, wS u, rfl, (show SqT K H o (([(a : Int), (b : Int), (c : Int)] : List Int).map V.int) from SqT.of g.ob), szw (by omega), (fun e => by rw [g.ok] at e; cases e), (fun _ e => by rw [okWord_wS (by omega)] at e; cases e), fun _ _ a' b' c' w' H' e _ _ _ e2 _ s' => ?_⟩
  obtain ⟨rfl, rfl, rfl⟩ := inj3 e
  rw [← wS_inj e2]
  exact q H' s'

theorem walk_nat {n : Nat} : Walk (Itr 0 n) n (fun _ => True) (YFn fun i => .int (i : Nat)) := by
  have e : (fun i : Nat => V.int (0 + (i : Nat))) = fun i : Nat => V.int (i : Nat) := by
    funext i
    rw [Int.zero_add]
  rw [← e]
  exact walk_range
theorem at_wS {w : W} {k : Nat} {i : Fin 3} (h : w[k]? = some i) : atI (wS w).cps.toList ((k : Nat) : Int) = some (48 + i.1) := by
  refine atI_nat ?_
  rw [wS_list, List.getElem?_map, h]
  rfl

def spCkLet (C : Addr) : Sp := fun vs H Q E => ∃ x : Str, vs = [.str x] ∧ (isLet x = false → ∀ H', Same H H' → E (.ref C) none H') ∧ (isLet x = true → ∀ H', Same H H' → Q .non H')
theorem ok_check_letter (T : Txt K mg cx) : FK.Has P w K mg base (L2.CX P w) 4 "check_letter" ["text"] (spCkLet cx.NotWord) := by
  have H_is_letter := ok_is_letter (P := P) (w := w) (base := base) T
  refine T.d_check_letter.okX sc_check_letter (fun vs H Q E h => ?_) (fun f cdv A outer s H vs Q E hr h => ?_)
  · obtain ⟨l, rfl, _⟩ := h
    rfl
  · obtain ⟨l, rfl, qE, q⟩ := h
    refine ⟨_, (pss_one (ps_if (pt_not (pt_val (FK.pe_h (E := E0) H_is_letter (hr.mono (by decide)) pass0 (pa_cons (pv 0) pa_nil)))) (pss_one (ps_raise rfl (takes_of rfl rfl rfl rfl) (pmk_own PySem.F.excBase_ValueError T.x_NotWord.x T.x_NotWord.g T.x_NotWord.k (raises_own T.x_NotWord.b T.x_NotWord.t) (by exact rfl)))) pss_nil)), ?_⟩
    simp only [tSeq, tIfS, tOr, tAnd, tB, tTest, tCB, tCons, tVar, tC, tNil, tNot, tNotV, tRet, tRetN, tNext, tBreak, tOrV, tAndV, tOp, tUn, rEq, rNe, tChain, rI0, rI, rU, tAsg, gName, tDrop, tAug, ipI, tIf, tCall, tCallS, tLst, tTup, tBM, tBM0, rAppend, rExtend, rPop, rReverse, tyV, rIxL, rIxT, rIxS, rIsB, rNotB, L2.start, List.map_cons, List.map_nil, List.length_cons, List.length_nil, List.replicate, List.cons_append, List.nil_append, List.append_nil, List.getElem?_cons_zero, List.getElem?_cons_succ, List.set_cons_zero, List.set_cons_succ, Nat.reduceAdd, Nat.reduceSub, Option.some.injEq, exists_eq_left', exists_eq_left, V.int.injEq, V.bl.injEq, V.str.injEq, V.ref.injEq, List.cons.injEq, and_true, true_and, and_assoc, reduceCtorEq, false_and, exists_false, or_false, false_or, exists_and_left, exists_const, scal, Int.reduceLT, Int.reduceLE, Int.reduceSub, Int.reduceAdd, Int.reduceNeg, if_true, if_false]
    refine ⟨_, rfl, fun H' s' => ⟨_, rfl, ?_⟩⟩
    cases e : isLet l with
    | true => exact iteF (q e H' s')
    | false => exact iteT (qE e H' s')
theorem isLet_ex {x : Str} (h : isLet x = true) : ∃ l : Fin 3, x = wS [l] := by
  unfold isLet inV at h
  have h2 : ("0" : Str) = x ∨ ("1" : Str) = x ∨ ("2" : Str) = x := by simpa [eqV] using h
  rcases h2 with h | h | h
  · exact ⟨0, by rw [← h]; rfl⟩
  · exact ⟨1, by rw [← h]; rfl⟩
  · exact ⟨2, by rw [← h]; rfl⟩
theorem isLet_wS (l : Fin 3) : isLet (wS [l]) = true := by
  rcases three l with rfl | rfl | rfl <;> decide +kernel

def spWayB (K : PySem.W.Frag) (C : Addr) : Sp := fun vs H Q _ => ∃ (f o d : Addr) (a b c : Nat) (u v : W), vs = [.ref f, .str (wS u), .str (wS v)] ∧ FlAt K C H f o d a b c ∧ u.length + v.length ≤ 400 ∧
  ∀ H', FlAt K C H' f o d a b c → FK.But d H H' → Q (.str (wS (nfw a b c (u.reverse ++ v)))) H'
theorem ok_way_between (T : Txt K mg cx) : FK.Has P w K mg base CX0 6 "way_between" ["floor", "one", "other"] (spWayB K cx.Floor) := by
  have H_Floor_normal := ok_Floor_normal (P := P) (w := w) (mg := mg) (base := base) T
  refine T.d_way_between.ok sc_way_between (fun vs H Q E h => ?_) (fun f cdv A outer s H vs Q E hr h => ?_)
  · obtain ⟨f, o, d, a, b, c, u, v, rfl, _⟩ := h
    rfl
  · obtain ⟨f, o, d, a, b, c, u, v, rfl, F, hl, q⟩ := h
    refine ⟨_, (pss_one (ps_ret (FK.pe_m (E := E0) (pv 0) T.cl_Floor H_Floor_normal (hr.mono (by decide)) pass0 (pa_cons (pe_op op_add_str (FK.pe_revS (pv 1)) (pv 2)) pa_nil)))), ?_⟩
    simp only [tSeq, tIfS, tOr, tAnd, tB, tTest, tCB, tCons, tVar, tC, tNil, tNot, tNotV, tRet, tRetN, tNext, tBreak, tOrV, tAndV, tOp, tUn, rEq, rNe, tChain, rI0, rI, rU, tAsg, gName, tDrop, tAug, ipI, tIf, tCall, tCallS, tLst, tTup, tBM, tBM0, rAppend, rExtend, rPop, rReverse, tyV, rIxL, rIxT, rIxS, rIsB, rNotB, L2.start, List.map_cons, List.map_nil, List.length_cons, List.length_nil, List.replicate, List.cons_append, List.nil_append, List.append_nil, List.getElem?_cons_zero, List.getElem?_cons_succ, List.set_cons_zero, List.set_cons_succ, Nat.reduceAdd, Nat.reduceSub, Option.some.injEq, exists_eq_left', exists_eq_left, V.int.injEq, V.bl.injEq, V.str.injEq, V.ref.injEq, List.cons.injEq, and_true, true_and, and_assoc, reduceCtorEq, false_and, exists_false, or_false, false_or, exists_and_left, exists_const, scal, Int.reduceLT, Int.reduceLE, Int.reduceSub, Int.reduceAdd, Int.reduceNeg, if_true, if_false, tMeth, FK.tRevS]
    obtain ⟨dx, e1⟩ := F.ob
    refine ⟨dx, _, e1, fldsF_no _ _ (by decide +kernel) (by decide +kernel), zw (by omega), ?_⟩
    rw [wS_rev, wS_app]
    exact ⟨by rw [wS_len, wS_len]; exact zl _ (by rw [List.length_reverse]; omega), f, o, d, a, b, c, u.reverse ++ v, rfl, F, by rw [List.length_append, List.length_reverse]; omega, fun H5 F5 b5 => q H5 F5 b5⟩

theorem FlAt.ned {C : Addr} {H : Hp} {f o d p : Addr} {a b c : Nat} (h : FlAt K C H f o d a b c) (hp : H p = none) : p ≠ d := by
  obtain ⟨_, _, _, _, _, k2, f3, _⟩ := h
  exact fun q => by rw [q, f3] at hp; cases hp
theorem FlAt.nel {C : Addr} {H : Hp} {f o d p : Addr} {a b c : Nat} {l : List V} (h : FlAt K C H f o d a b c) (hp : H p = some (.lst l)) : p ≠ d := by
  obtain ⟨_, _, _, _, _, k2, f3, _⟩ := h
  exact fun q => by rw [q, f3] at hp; cases hp
/-- a list beside a floor changes -/
theorem FlAt.fr {C : Addr} {H H' : Hp} {f o d D : Addr} {a b c : Nat} {acc : List V} (h : FlAt K C H f o d a b c) (hD : H D = some (.lst acc)) (fr : ∀ b u, H b = some u → b ≠ D → H' b = some u) : FlAt K C H' f o d a b c := by
  have nd := h.nel hD
  have tup : ∀ {p : Addr} {l : List V}, H p = some (.tup l) → H' p = some (.tup l) := fun {p l} e => fr p _ e (fun q => by rw [q, hD] at e; cases e)
  have frz : ∀ {p : Addr} {ob : Obj} {u : HO}, H p = some (.frz ob u) → H' p = some (.frz ob u) := fun {p ob u} e => fr p _ e (fun q => by rw [q, hD] at e; cases e)
  obtain ⟨⟨dx2, f1⟩, f2, fa, fb, fc, k2, f3, f4, f5⟩ := h
  refine ⟨⟨dx2, fr _ _ f1 (fun q => by rw [q, hD] at f1; cases f1)⟩, ?_, fa, fb, fc, k2, fr _ _ f3 nd.symm, f4, fun kv hm => ?_⟩
  · rcases f2 with (f2 | ⟨ob, f2⟩) | f2
    · exact .inl (.inl (tup f2))
    · exact .inl (.inr ⟨ob, frz f2⟩)
    · exact .inr f2
  · obtain ⟨s', p, a1, a2, bt, b1, b2⟩ := f5 kv hm
    exact ⟨s', p, a1, a2, bt, tup b1, tup b2⟩

theorem strOk_wS (u : W) : PyData.strOk (wS u) = true := by
  unfold PyData.strOk
  rw [← Array.all_toList, wS_list, List.all_map, List.all_eq_true]
  intro i _
  have h := i.2
  exact decide_eq_true (show 48 + i.1 < 0x110000 by omega)
theorem map_wS_inj : ∀ {us vs : List W}, us.map wS = vs.map wS → us = vs
  | [], [], _ => rfl
  | [], _ :: _, h => by cases h
  | _ :: _, [], h => by cases h
  | u :: us, v :: vs, h => by
    rw [List.map_cons, List.map_cons] at h
    injection h with h1 h2
    rw [wS_inj h1, map_wS_inj h2]
theorem dec_wS (us vs : List W) : decide (us.map wS = vs.map wS) = decide (us = vs) := decide_eq_decide.2 ⟨map_wS_inj, fun h => by rw [h]⟩
theorem neD_words {H : Hp} {a b : Addr} {us vs : List W} {Q : VK} (ha : SqL K H a ((us.map wS).map V.str)) (hb : SqL K H b ((vs.map wS).map V.str)) (q : Q (.bl (!decide (us = vs))) H) : rNeD K (.ref a) (.ref b) H Q := by
  refine FK.neD_strs ha hb (fun x hx => ?_) (fun x hx => ?_) ?_
  · obtain ⟨u, _, rfl⟩ := List.mem_map.mp hx
    exact strOk_wS u
  · obtain ⟨u, _, rfl⟩ := List.mem_map.mp hx
    exact strOk_wS u
  · rw [dec_wS]
    exact q
theorem eqD_words {H : Hp} {a b : Addr} {us vs : List W} {Q : VK} (ha : SqL K H a ((us.map wS).map V.str)) (hb : SqL K H b ((vs.map wS).map V.str)) (q : Q (.bl (decide (us = vs))) H) : rEqD K (.ref a) (.ref b) H Q := by
  refine FK.eqD_strs ha hb (fun x hx => ?_) (fun x hx => ?_) ?_
  · obtain ⟨u, _, rfl⟩ := List.mem_map.mp hx
    exact strOk_wS u
  · obtain ⟨u, _, rfl⟩ := List.mem_map.mp hx
    exact strOk_wS u
  · rw [dec_wS]
    exact q

theorem inV_wS (w : W) (ws : List W) : inV (.str (wS w)) ((ws.map wS).map V.str) = decide (w ∈ ws) := by
  unfold inV
  rw [Bool.eq_iff_iff, decide_eq_true_iff, List.map_map, List.any_map, List.any_eq_true]
  constructor
  · rintro ⟨x, hx, e⟩
    have e2 : wS x = wS w := by
      have e3 : eqV (V.str (wS x)) (V.str (wS w)) = true := e
      unfold eqV at e3
      simpa using e3
    rw [← wS_inj e2]
    exact hx
  · intro h
    refine ⟨w, h, ?_⟩
    show eqV (V.str (wS w)) (V.str (wS w)) = true
    unfold eqV
    simp
theorem flat_words (ws : List W) : ((ws.map wS).map V.str).all flatV = true := by
  rw [List.all_eq_true]
  intro x hx
  obtain ⟨y, _, rfl⟩ := List.mem_map.mp hx
  rfl
theorem filter_words (ps qs : List W) : (((ps.map wS).map V.str).filter fun x => !inV x ((qs.map wS).map V.str)).map id = ((ps.filter fun x => decide (x ∉ qs)).map wS).map V.str := by
  rw [List.map_id, List.map_map, List.map_map, List.filter_map]
  rw [List.filter_congr (p := (fun x => !inV x (List.map (V.str ∘ wS) qs)) ∘ (V.str ∘ wS)) (q := fun x => decide (x ∉ qs)) fun x _ => ?_]
  · rw [List.map_map]
  · show (!inV (V.str (wS x)) (qs.map (V.str ∘ wS))) = _
    rw [← List.map_map, inV_wS]
    simp
theorem mirs_short {m : Fin 3 → Fin 3 → Nat} {nf : W → W} (hN : NF m nf) {w x : W} (hw : w.length ≤ 60) (hx : x ∈ mirs nf w) : x.length ≤ 2 * w.length := by
  unfold mirs at hx
  obtain ⟨k, hk, rfl⟩ := List.mem_map.mp hx
  have hk := List.mem_range.mp hk
  unfold mirAt
  have l := hN.l (w.take k ++ (w.drop k).take 1 ++ (w.take k).reverse) (by simp only [List.length_append, List.length_take, List.length_reverse, List.length_drop]; omega)
  simp only [List.length_append, List.length_take, List.length_reverse, List.length_drop] at l
  omega

theorem rd_lc_filterH {wi : TI} {i : Nat} {tt : L2.TT} {te : TE} {vs : List Nat} {σ : L2.St} {H H1 : Hp} {J : It} {G : Hp → Prop} {Q : VK} (xs : List V) (p : V → Bool) (f : V → V) (hw : ∀ R : It → Hp → Prop, R J H1 → wi σ H R) (w : Walk J xs.length G (YAt xs))
    (hG : ∀ D o, H1 D = none → G (upd H1 D o)) (hl : xs.length < sizeLine) (hv : ∀ x, wipe ((wipe σ vs).set i (some x)) vs = wipe σ vs)
    (ht : ∀ x D l (R : Bool → Hp → Prop), H1 D = none → x ∈ xs → R (p x) (upd H1 D (.lst l)) → tt ((wipe σ vs).set i (some x)) (upd H1 D (.lst l)) R)
    (hs : ∀ x D l (R : VK), H1 D = none → x ∈ xs → p x = true → R (f x) (upd H1 D (.lst l)) → te ((wipe σ vs).set i (some x)) (upd H1 D (.lst l)) R)
    (hd : ∀ D, H1 D = none → Q (.ref D) (upd H1 D (.lst ((xs.filter p).map f)))) : tLc wi (gName i) tt te vs σ H Q := by
  refine hw _ fun D hD => ?_
  refine lc_it w (fun j H' => H' = upd H1 D (.lst (((xs.take j).filter p).map f))) (by simp) (fun j H' hj e => by rw [e]; exact hG D _ hD) ?_ ?_
  · rintro j x H' H'' hj rfl ⟨rfl, hx⟩
    have hm : x ∈ xs := List.mem_of_getElem? hx
    have et : xs.take (j + 1) = xs.take j ++ [x] := by rw [List.take_add_one, hx]; rfl
    refine ⟨hv x, ht x D _ _ hD hm ?_⟩
    cases e : p x with
    | true =>
      refine iteT (hs x D _ _ hD hm e ⟨_, upd_same, ?_, ?_⟩)
      · rw [List.length_map]
        exact Nat.lt_of_le_of_lt (Nat.le_trans (List.length_filter_le _ _) (by rw [List.length_take]; exact Nat.min_le_right _ _)) hl
      · rw [upd_upd, et, List.filter_append, List.map_append]
        simp [e]
    | false =>
      refine iteF ?_
      rw [et, List.filter_append]
      simp [e]
  · rintro H' rfl
    rw [List.take_length]
    exact hd D hD

def spWallAt (K : PySem.W.Frag) (C : Addr) : Sp := fun vs H Q _ => ∃ (f o d : Addr) (a b c : Nat) (t : W) (l : Fin 3), vs = [.ref f, .str (wS t), .str (wS [l])] ∧ FlAt K C H f o d a b c ∧ t.length ≤ 250 ∧
  ∀ H', FlAt K C H' f o d a b c → FK.But d H H' → Q (.str (wS (nfw a b c (t ++ [l] ++ t.reverse)))) H'
theorem ok_wall_at (T : Txt K mg cx) : FK.Has P w K mg base CX0 6 "wall_at" ["floor", "tile", "letter"] (spWallAt K cx.Floor) := by
  have H_Floor_normal := ok_Floor_normal (P := P) (w := w) (mg := mg) (base := base) T
  refine T.d_wall_at.ok sc_wall_at (fun vs H Q E h => ?_) (fun f cdv A outer s H vs Q E hr h => ?_)
  · obtain ⟨f, o, d, a, b, c, t, l, rfl, _⟩ := h
    rfl
  · obtain ⟨f, o, d, a, b, c, t, l, rfl, F, ht, q⟩ := h
    refine ⟨_, (pss_one (ps_ret (FK.pe_m (E := E0) (pv 0) T.cl_Floor H_Floor_normal (hr.mono (by decide)) pass0 (pa_cons (pe_op op_add_str (pe_op op_add_str (pv 1) (pv 2)) (FK.pe_revS (pv 1))) pa_nil)))), ?_⟩
    obtain ⟨dx, e1⟩ := F.ob
    simp only [tSeq, tIfS, tOr, tAnd, tB, tTest, tCB, tCons, tVar, tC, tNil, tNot, tNotV, tRet, tRetN, tNext, tBreak, tOrV, tAndV, tOp, tUn, rEq, rNe, tChain, rI0, rI, rU, tAsg, gName, tDrop, tAug, ipI, tIf, tCall, tCallS, tLst, tTup, tBM, tBM0, rAppend, rExtend, rPop, rReverse, tyV, rIxL, rIxT, rIxS, rIsB, rNotB, L2.start, List.map_cons, List.map_nil, List.length_cons, List.length_nil, List.replicate, List.cons_append, List.nil_append, List.append_nil, List.getElem?_cons_zero, List.getElem?_cons_succ, List.set_cons_zero, List.set_cons_succ, Nat.reduceAdd, Nat.reduceSub, Option.some.injEq, exists_eq_left', exists_eq_left, V.int.injEq, V.bl.injEq, V.str.injEq, V.ref.injEq, List.cons.injEq, and_true, true_and, and_assoc, reduceCtorEq, false_and, exists_false, or_false, false_or, exists_and_left, exists_const, scal, Int.reduceLT, Int.reduceLE, Int.reduceSub, Int.reduceAdd, Int.reduceNeg, if_true, if_false, tMeth]
    refine ⟨dx, _, e1, fldsF_no _ _ (by decide +kernel) (by decide +kernel), ?_, _, rfl, wS t, rfl, ?_, _, rfl, ?_, ?_⟩
    · rw [wS_len, wS_len]; exact zl _ (by simp; omega)
    · rw [wS_len]; exact zl _ (by omega)
    · rw [wS_app, wS_rev, wS_len, wS_len]; exact zl _ (by simp; omega)
    · rw [wS_rev, wS_app, wS_app]
      exact ⟨f, o, d, a, b, c, _, rfl, F, by simp; omega, fun H5 F5 b5 => q H5 F5 b5⟩
theorem wS_at {u : W} {i c : Nat} (h : (wS u).cps[i]? = some c) : ∃ l, u[i]? = some l ∧ (⟨#[c]⟩ : Str) = wS [l] := by
  rw [← Array.getElem?_toList, wS_list, List.getElem?_map] at h
  cases e : u[i]? with
  | none => rw [e] at h; cases h
  | some l => rw [e] at h; cases h; exact ⟨l, rfl, rfl⟩
/-- the wall that a way crosses with the letter at a place -/
def wlAt (nf : W → W) (t u : W) (k : Nat) : W := nf (t ++ u.take k ++ (u.drop k).take 1 ++ (t ++ u.take k).reverse)
def wls (nf : W → W) (t u : W) (n : Nat) : List W := (List.range n).map (wlAt nf t u)
theorem wls_succ (nf : W → W) (t u : W) (n : Nat) : wls nf t u (n + 1) = wls nf t u n ++ [wlAt nf t u n] := by
  unfold wls
  rw [List.range_succ, List.map_append]
  rfl
theorem wls_len (nf : W → W) (t u : W) (n : Nat) : (wls nf t u n).length = n := by simp [wls]

/-- the order of words: shorter ones first, those of one length as texts -/
def ole (u v : W) : Prop := u.length < v.length ∨ (u.length = v.length ∧ lx u v)
theorem ole_antisymm {u v : W} (h : ole u v) (k : ole v u) : u = v := by
  rcases h with h | ⟨e, h⟩
  · rcases k with k | ⟨e, _⟩ <;> omega
  · rcases k with k | ⟨_, k⟩
    · omega
    · exact lx_antisymm e h k
theorem ole_uniq : ∀ {us vs : List W}, us.Perm vs → us.Pairwise ole → vs.Pairwise ole → us = vs
  | [], vs, h, _, _ => (List.Perm.nil_eq h)
  | u :: us, [], h, _, _ => absurd h.length_eq (by simp)
  | u :: us, v :: vs, h, hu, hv => by
    have e : u = v := by
      rcases List.mem_cons.mp (h.mem_iff.mp (List.mem_cons_self (a := u) (l := us))) with e | m1
      · exact e
      · rcases List.mem_cons.mp (h.mem_iff.mpr (List.mem_cons_self (a := v) (l := vs))) with e | m2
        · exact e.symm
        · exact ole_antisymm ((List.pairwise_cons.mp hu).1 v m2) ((List.pairwise_cons.mp hv).1 u m1)
    subst e
    rw [ole_uniq h.cons_inv (List.pairwise_cons.mp hu).2 (List.pairwise_cons.mp hv).2]
/-- by lengths, and within each length -/
theorem pw_classes {R : Str → Str → Prop} : ∀ {l : List Str}, l.Pairwise (fun x y => x.length ≤ y.length) → (∀ n : Nat, (l.filter fun x => x.length == n).Pairwise R) → l.Pairwise fun x y => x.length < y.length ∨ (x.length = y.length ∧ R x y)
  | [], _, _ => .nil
  | x :: l, h, c => by
    obtain ⟨h1, h2⟩ := List.pairwise_cons.mp h
    refine List.pairwise_cons.mpr ⟨fun y hy => ?_, pw_classes h2 fun n => ?_⟩
    · rcases Nat.lt_or_ge x.length y.length with q | q
      · exact .inl q
      · have e : x.length = y.length := Nat.le_antisymm (h1 y hy) q
        have k := c x.length
        rw [List.filter_cons, if_pos (beq_self_eq_true _)] at k
        exact .inr ⟨e, (List.pairwise_cons.mp k).1 y (List.mem_filter.mpr ⟨hy, by rw [e]; exact beq_self_eq_true _⟩)⟩
    · have k := c n
      rw [List.filter_cons] at k
      split at k
      · exact (List.pairwise_cons.mp k).2
      · exact k
theorem rising_pw : ∀ {l : List Str} {p : Str}, risingS p l = true → (p :: l).Pairwise fun x y => ¬ y.cps.toList < x.cps.toList
  | [], p, _ => List.pairwise_singleton _ _
  | x :: l, p, h => by
    have h' : (!ltCps x.cps.toList p.cps.toList && risingS x l) = true := h
    rw [Bool.and_eq_true, Bool.not_eq_true', ltCps_eq, decide_eq_false_iff_not] at h'
    have ih := rising_pw h'.2
    refine List.pairwise_cons.mpr ⟨fun y hy => ?_, ih⟩
    rcases List.mem_cons.mp hy with rfl | hy
    · exact h'.1
    · have h2 := (List.pairwise_cons.mp ih).1 y hy
      exact List.not_lt.mpr (List.le_trans (List.not_lt.mp h'.1) (List.not_lt.mp h2))
theorem sorted_pw {l : List Str} (h : sortedS l = true) : l.Pairwise fun x y => ¬ y.cps.toList < x.cps.toList := by
  cases l with
  | nil => exact .nil
  | cons x l => exact rising_pw h
/-- words of a list that is in order by lengths, and by texts within each length -/
theorem ole_of {vs : List W} (h1 : (vs.map wS).Pairwise fun x y => x.length ≤ y.length) (h2 : ∀ n : Nat, ((vs.map wS).filter fun x => x.length == n).Pairwise fun x y => ¬ y.cps.toList < x.cps.toList) : vs.Pairwise ole := by
  have h := List.pairwise_map.mp (pw_classes h1 h2)
  refine h.imp fun {u v} c => ?_
  rw [wS_len, wS_len] at c
  rcases c with c | ⟨c, d⟩
  · exact .inl c
  · exact .inr ⟨c, lx_lt c d⟩
def spInOrder (K : PySem.W.Frag) : Sp := fun vs H Q _ => ∃ (l : Addr) (us : List W), vs = [.ref l] ∧ SqL K H l ((us.map wS).map V.str) ∧ (∀ u ∈ us, u.length ≤ 500) ∧
  ∀ (ys : List W) p H', ys.Perm us → ys.Pairwise ole → H p = none → H' p = some (.lst ((ys.map wS).map V.str)) → Same H H' → Q (.ref p) H'
theorem ok_in_order (T : Txt K mg cx) : FK.Has P w K mg base CX0 1 "in_order" ["words"] (spInOrder K) := by
  refine T.d_in_order.ok sc_in_order (fun vs H Q E h => ?_) (fun f cdv A outer s H vs Q E hr h => ?_)
  · obtain ⟨l, us, rfl, _⟩ := h
    rfl
  · obtain ⟨l, us, rfl, hl, hb, q⟩ := h
    refine ⟨_, (pss_one (ps_ret (FK.pe_sortLen (pa_cons (pe_callB FK.cr_sortT (by rfl) T.n_sorted (by decide +kernel) (pa_cons (pv 0) pa_nil)) pa_nil) (by rfl) T.n_sorted (by rfl) T.n_len))), ?_⟩
    simp only [tSeq, tIfS, tOr, tAnd, tB, tTest, tCB, tCons, tVar, tC, tNil, tNot, tNotV, tRet, tRetN, tNext, tBreak, tOrV, tAndV, tOp, tUn, rEq, rNe, tChain, rI0, rI, rU, tAsg, gName, tDrop, tAug, ipI, tIf, tCall, tCallS, tLst, tTup, tBM, tBM0, rAppend, rExtend, rPop, rReverse, tyV, rIxL, rIxT, rIxS, rIsB, rNotB, L2.start, List.map_cons, List.map_nil, List.length_cons, List.length_nil, List.replicate, List.cons_append, List.nil_append, List.append_nil, List.getElem?_cons_zero, List.getElem?_cons_succ, List.set_cons_zero, List.set_cons_succ, Nat.reduceAdd, Nat.reduceSub, Option.some.injEq, exists_eq_left', exists_eq_left, V.int.injEq, V.bl.injEq, V.str.injEq, V.ref.injEq, List.cons.injEq, and_true, true_and, and_assoc, reduceCtorEq, false_and, exists_false, or_false, false_or, exists_and_left, exists_const, scal, Int.reduceLT, Int.reduceLE, Int.reduceSub, Int.reduceAdd, Int.reduceNeg, if_true, if_false]
    refine ⟨l, us.map wS, rfl, hl, fun zs p pm srt hp => ⟨p, zs, rfl, SqL.of upd_same, fun x hx => ?_, fun ys p2 pm2 pw2 fl hp2 => ?_⟩⟩
    · obtain ⟨u, hu, rfl⟩ := List.mem_map.mp (pm.mem_iff.mp hx)
      rw [wS_len]
      exact zl _ (by have := hb u hu; omega)
    · obtain ⟨vs, p3, rfl⟩ := L2.perm_lift wS (pm2.trans pm) us rfl
      have hn : H p2 = none := by
        by_cases c : p2 = p
        · subst c
          exact hp
        · rw [upd_ne c] at hp2
          exact hp2
      refine q vs p2 _ p3 (ole_of pw2 fun n => ?_) hn upd_same ((FK.same_new hp).trans (FK.same_new hp2))
      rw [fl n]
      exact (sorted_pw srt).filter _

def spCheckWords (K : PySem.W.Frag) (C : Addr) : Sp := fun vs H Q E => ∃ (a : Addr) (xs : List Str), vs = [.ref a] ∧ SqL K H a (xs.map V.str) ∧ (∀ x ∈ xs, x.length < sizeLine) ∧ (xs.all (fun x => okWord x 60) = false → ∀ H', Same H H' → E (.ref C) none H') ∧ (xs.all (fun x => okWord x 60) = true → ∀ H', Same H H' → Q .non H')
theorem ok_check_words (T : Txt K mg cx) : FK.Has P w K mg base (L2.CX P w) 6 "check_words" ["words"] (spCheckWords K cx.NotWord) := by
  have H_check_word := ok_check_word (P := P) (w := w) (base := base) T
  refine T.d_check_words.okX sc_check_words (fun vs H Q E h => ?_) (fun f cdv A outer s H vs Q E hr h => ?_)
  · obtain ⟨a, xs, rfl, _⟩ := h
    rfl
  · obtain ⟨a, xs, rfl, hS, hx, qE, q⟩ := h
    refine ⟨_, (pss_one (ps_for (passes_of rfl) rfl (pi_list (pv 0)) (pg_name (i := 1) sc_check_words.nd rfl (Or.inl rfl))
  (pss_one (ps_expr (FK.pe_h (E := E) H_check_word (hr.mono (by decide)) (passes_call (takes_of rfl rfl rfl rfl) (fun _ _ _ _ h => h)) (pa_cons (pv 1) pa_nil)))))), ?_⟩
    simp only [tSeq, tIfS, tOr, tAnd, tB, tTest, tCB, tCons, tVar, tC, tNil, tNot, tNotV, tRet, tRetN, tNext, tBreak, tOrV, tAndV, tOp, tUn, rEq, rNe, tChain, rI0, rI, rU, tAsg, gName, tDrop, tAug, ipI, tIf, tCall, tCallS, tLst, tTup, tBM, tBM0, rAppend, rExtend, rPop, rReverse, tyV, rIxL, rIxT, rIxS, rIsB, rNotB, L2.start, List.map_cons, List.map_nil, List.length_cons, List.length_nil, List.replicate, List.cons_append, List.nil_append, List.append_nil, List.getElem?_cons_zero, List.getElem?_cons_succ, List.set_cons_zero, List.set_cons_succ, Nat.reduceAdd, Nat.reduceSub, Option.some.injEq, exists_eq_left', exists_eq_left, V.int.injEq, V.bl.injEq, V.str.injEq, V.ref.injEq, List.cons.injEq, and_true, true_and, and_assoc, reduceCtorEq, false_and, exists_false, or_false, false_or, exists_and_left, exists_const, scal, Int.reduceLT, Int.reduceLE, Int.reduceSub, Int.reduceAdd, Int.reduceNeg, if_true, if_false]
    refine FK.rd_for (J := Itl K a) (H1 := H) (fun R r => ⟨_, rfl, a, rfl, ⟨_, hS⟩, r⟩) (walk_list (xs := xs.map V.str))
      (fun i σ H' => ∃ v1 : Option V, σ = [some (.ref a), v1] ∧ Same H H' ∧ (xs.take i).all (fun x => okWord x 60) = true) ⟨none, rfl, Same.refl H, rfl⟩ (fun i σ H' _ ⟨_, _, s1, _⟩ => s1.seq hS) ?_ ?_
    · rintro i x σ H1 H2 hi ⟨v1, rfl, s1, hk⟩ ⟨rfl, hx1⟩
      rw [List.getElem?_map] at hx1
      cases e : xs[i]? with
      | none => rw [e] at hx1; cases hx1
      | some y =>
        rw [e] at hx1
        cases hx1
        simp only [tSeq, tIfS, tOr, tAnd, tB, tTest, tCB, tCons, tVar, tC, tNil, tNot, tNotV, tRet, tRetN, tNext, tBreak, tOrV, tAndV, tOp, tUn, rEq, rNe, tChain, rI0, rI, rU, tAsg, gName, tDrop, tAug, ipI, tIf, tCall, tCallS, tLst, tTup, tBM, tBM0, rAppend, rExtend, rPop, rReverse, tyV, rIxL, rIxT, rIxS, rIsB, rNotB, L2.start, List.map_cons, List.map_nil, List.length_cons, List.length_nil, List.replicate, List.cons_append, List.nil_append, List.append_nil, List.getElem?_cons_zero, List.getElem?_cons_succ, List.set_cons_zero, List.set_cons_succ, Nat.reduceAdd, Nat.reduceSub, Option.some.injEq, exists_eq_left', exists_eq_left, V.int.injEq, V.bl.injEq, V.str.injEq, V.ref.injEq, List.cons.injEq, and_true, true_and, and_assoc, reduceCtorEq, false_and, exists_false, or_false, false_or, exists_and_left, exists_const, scal, Int.reduceLT, Int.reduceLE, Int.reduceSub, Int.reduceAdd, Int.reduceNeg, if_true, if_false]
        have hm := List.mem_of_getElem? e
        refine ⟨y, rfl, hx y hm, fun e2 H3 s3 => qE ?_ H3 (s1.trans s3), fun e2 H3 s3 => ⟨s1.trans s3, ?_⟩⟩
        · rw [← Bool.not_eq_true, List.all_eq_true]
          intro h
          rw [h y hm] at e2
          cases e2
        · rw [List.take_add_one, e, List.all_append, hk]
          simpa using e2
    · rintro σ H1 ⟨v1, rfl, s1, hk⟩
      rw [List.length_map, List.take_length] at hk
      exact q hk H1 s1

/-- a list of words that tells tiles: at least one, at most 60 -/
def spGiven (K : PySem.W.Frag) (CO CW CA CT : Addr) : Sp := fun vs H Q E => ∃ (o l : Addr) (ns : List Int) (xs : List Str), vs = [.ref o, .ref l] ∧ SqT K H o (ns.map V.int) ∧ H l = some (.lst (xs.map V.str)) ∧ (∀ x ∈ xs, x.length < sizeLine) ∧
  (okOrders ns = false → ∀ H', Same H H' → E (.ref CO) none H') ∧ (okOrders ns = true → xs.all (fun x => okWord x 60) = false → ∀ H', Same H H' → E (.ref CW) none H') ∧
  (okOrders ns = true → xs.all (fun x => okWord x 60) = true → (xs = [] → ∀ H', Same H H' → E (.ref CA) none H') ∧ (xs ≠ [] → 60 < xs.length → ∀ H', Same H H' → E (.ref CT) none H') ∧ (xs ≠ [] → xs.length ≤ 60 → ∀ H', Same H H' → Q .non H'))
theorem words_ok : ∀ {xs : List Str}, xs.all (fun x => okWord x 60) = true → ∃ us : List W, xs = us.map wS ∧ ∀ u ∈ us, u.length ≤ 60
  | [], _ => ⟨[], rfl, fun _ h => nomatch h⟩
  | x :: xs, h => by
    rw [List.all_cons, Bool.and_eq_true] at h
    obtain ⟨u, rfl, hu⟩ := word_ok h.1
    obtain ⟨us, rfl, hus⟩ := words_ok h.2
    refine ⟨u :: us, rfl, fun v hv => ?_⟩
    rcases List.mem_cons.mp hv with rfl | hv
    · omega
    · exact hus v hv
theorem all_wS {us : List W} (h : ∀ u ∈ us, u.length ≤ 60) : (us.map wS).all (fun x => okWord x 60) = true := by
  rw [List.all_eq_true]
  intro x hx
  obtain ⟨u, hu, rfl⟩ := List.mem_map.mp hx
  exact okWord_wS (by have := h u hu; omega)
theorem ok_check_given (T : Txt K mg cx) : FK.Has P w K mg base (L2.CX P w) 8 "check_given" ["orders", "words"] (spGiven K cx.NotOrders cx.NotWord cx.NoAnswer cx.TooLarge) := by
  have H_check_orders := ok_check_orders (P := P) (w := w) (base := base) T
  have H_check_words := ok_check_words (P := P) (w := w) (base := base) T
  refine T.d_check_given.okX sc_check_given (fun vs H Q E h => ?_) (fun f cdv A outer s H vs Q E hr h => ?_)
  · obtain ⟨o, l, ns, xs, rfl, _⟩ := h
    rfl
  · obtain ⟨o, l, ns, xs, rfl, hS, hL, hx, qO, qW, q⟩ := h
    refine ⟨_, (pss_cons (ps_expr (FK.pe_h (E := E) H_check_orders (hr.mono (by decide)) (passes_call (takes_of rfl rfl rfl rfl) (fun _ _ _ _ h => h)) (pa_cons (pv 0) pa_nil)))
  (pss_cons (ps_expr (FK.pe_h (E := E) H_check_words (hr.mono (by decide)) (passes_call (takes_of rfl rfl rfl rfl) (fun _ _ _ _ h => h)) (pa_cons (pv 1) pa_nil)))
  (pss_cons (ps_if (pt_cmpR (op_eqD hr.units) (pv 1) (pe_lst pa_nil) (nomark _)) (pss_one (ps_raise rfl (takes_of rfl rfl rfl rfl) (pmk_own PySem.F.excBase_ValueError T.x_NoAnswer.x T.x_NoAnswer.g T.x_NoAnswer.k (raises_own T.x_NoAnswer.b T.x_NoAnswer.t) (by exact rfl)))) pss_nil)
  (pss_one (ps_if (pt_cmpR op_gt (pe_callB call_len_seq (by rfl) T.n_len PySem.boot_len (pa_cons (pv 1) pa_nil)) (pe_glob (v := .int 60) rfl T.c_MOST_WORDS ⟨_, rfl⟩) (nomark _)) (pss_one (ps_raise rfl (takes_of rfl rfl rfl rfl) (SkE.pmk_own1 PySem.F.excBase_ValueError T.x_TooLarge.x T.x_TooLarge.g T.x_TooLarge.k (raises_own T.x_TooLarge.b T.x_TooLarge.t) rfl (pe_joined (PJ.cons pe_str (PJ.cons (pe_fmt (pe_glob (v := .int 60) rfl T.c_MOST_WORDS ⟨_, rfl⟩)) (PJ.cons pe_str PJ.nil))))))) pss_nil))))), ?_⟩
    simp only [tSeq, tIfS, tOr, tAnd, tB, tTest, tCB, tCons, tVar, tC, tNil, tNot, tNotV, tRet, tRetN, tNext, tBreak, tOrV, tAndV, tOp, tUn, rEq, rNe, tChain, rI0, rI, rU, tAsg, gName, tDrop, tAug, ipI, tIf, tCall, tCallS, tLst, tTup, tBM, tBM0, rAppend, rExtend, rPop, rReverse, tyV, rIxL, rIxT, rIxS, rIsB, rNotB, L2.start, List.map_cons, List.map_nil, List.length_cons, List.length_nil, List.replicate, List.cons_append, List.nil_append, List.append_nil, List.getElem?_cons_zero, List.getElem?_cons_succ, List.set_cons_zero, List.set_cons_succ, Nat.reduceAdd, Nat.reduceSub, Option.some.injEq, exists_eq_left', exists_eq_left, V.int.injEq, V.bl.injEq, V.str.injEq, V.ref.injEq, List.cons.injEq, and_true, true_and, and_assoc, reduceCtorEq, false_and, exists_false, or_false, false_or, exists_and_left, exists_const, scal, Int.reduceLT, Int.reduceLE, Int.reduceSub, Int.reduceAdd, Int.reduceNeg, if_true, if_false, tJs, tFmt]
    refine ⟨o, ns, rfl, hS, qO, fun eO H1 s1 => ⟨l, xs, rfl, SqL.of (s1 _ _ hL), hx, fun e H2 s2 => qW eO e H2 (s1.trans s2), fun eW H2 s2 => ?_⟩⟩
    have s02 := s1.trans s2
    obtain ⟨qA, qT, q⟩ := q eO eW
    obtain ⟨us, rfl, hus⟩ := words_ok eW
    refine ⟨Nat.zero_le _, fun p hp => eqD_words (us := us) (vs := []) (SqL.of (FK.same_new hp _ _ (s02 _ _ hL))) (SqL.of upd_same) ⟨_, rfl, ?_⟩⟩
    have s03 := s02.trans (FK.same_new (o := HO.lst []) hp)
    by_cases c : us = []
    · subst c
      exact iteT' (by simp) (qA rfl _ s03)
    · refine iteF' (by simp [c]) ?_
      have c2 : us.map wS ≠ [] := fun z => c (List.map_eq_nil_iff.mp z)
      refine ⟨_, .inl (SqL.of (s03 _ _ hL)), ?_⟩
      by_cases c3 : 60 < us.length
      · refine iteT' (by simp; omega) ?_
        exact ⟨by decide +kernel, by decide +kernel, by decide +kernel, by decide +kernel, qT c2 (by rw [List.length_map]; omega) _ s03⟩
      · refine iteF' (by simp; omega) (q c2 (by rw [List.length_map]; omega) _ s03)


end
end K32

namespace K32
open PySem PySem.Spec PyProof.Rows L2 Cox
section
variable {P : Program} {w : World} {K : PySem.W.Frag} {mg : Str → Option Value} {base : Heap} {cx : Xs}
/-- a side, as a key -/
def keyS (s : W × Fin 3) : List Key := [.inr (wS s.1), .inr (wS [s.2])]
theorem keyS_inj (s t : W × Fin 3) (h : keyS s = keyS t) : s = t := by
  unfold keyS at h
  injection h with h1 h2
  injection h2 with h2 _
  have e1 := wS_inj (Sum.inr.inj h1)
  have e2 := wS_inj (Sum.inr.inj h2)
  injection e2 with e3 _
  exact Prod.ext e1 e3
def encS (ss : List (W × Fin 3)) : List (List Key × V) := ss.map fun s => (keyS s, V.bl true)
def keyW (w : W) : Key := .inr (wS w)
theorem keyW_inj (u v : W) (h : keyW u = keyW v) : u = v := wS_inj (Sum.inr.inj h)
def encW (ws : List W) : List (Key × V) := ws.map fun w => (keyW w, V.bl true)
theorem put_encS (ss : List (W × Fin 3)) (s : W × Fin 3) : putK (encS ss) (keyS s) (V.bl true) = encS (FK.addS ss s) := FK.putK_addS keyS_inj _ ss s
theorem put_encW (ws : List W) (w : W) : putK (encW ws) (keyW w) (V.bl true) = encW (FK.addS ws w) := FK.putK_addS keyW_inj _ ws w
/-- what stands beside a floor changes -/
theorem FlAt.frX {C : Addr} {H H' : Hp} {f o d D : Addr} {a b c : Nat} {v : HO} (h : FlAt K C H f o d a b c) (hD : H D = some v) (nd : D ≠ d) (h1 : ∀ l, v ≠ .tup l) (h2 : ∀ ob l, v ≠ .frz ob (.tup l)) (h3 : ∀ C dx l, v ≠ .ins C dx l) (fr : ∀ b u, H b = some u → b ≠ D → H' b = some u) : FlAt K C H' f o d a b c := by
  have tup : ∀ {p : Addr} {l : List V}, H p = some (.tup l) → H' p = some (.tup l) := fun {p l} e => fr p _ e (fun q => by rw [q, hD] at e; exact h1 l (Option.some.inj e))
  have frz : ∀ {p : Addr} {ob : Obj} {l : List V}, H p = some (.frz ob (.tup l)) → H' p = some (.frz ob (.tup l)) := fun {p ob u} e => fr p _ e (fun q => by rw [q, hD] at e; exact h2 ob u (Option.some.inj e))
  obtain ⟨⟨dx2, f1⟩, f2, fa, fb, fc, k2, f3, f4, f5⟩ := h
  refine ⟨⟨dx2, fr _ _ f1 (fun q => by rw [q, hD] at f1; exact h3 _ _ _ (Option.some.inj f1))⟩, ?_, fa, fb, fc, k2, fr _ _ f3 nd.symm, f4, fun kv hm => ?_⟩
  · rcases f2 with (f2 | ⟨ob, f2⟩) | f2
    · exact .inl (.inl (tup f2))
    · exact .inl (.inr ⟨ob, frz f2⟩)
    · exact .inr f2
  · obtain ⟨s', p, a1, a2, bt, b1, b2⟩ := f5 kv hm
    exact ⟨s', p, a1, a2, bt, tup b1, tup b2⟩
theorem FlAt.dd {C : Addr} {H : Hp} {f o d : Addr} {a b c : Nat} (h : FlAt K C H f o d a b c) : ∃ kvs, H d = some (.dK kvs) := by
  obtain ⟨_, _, _, _, _, k2, f3, _⟩ := h
  exact ⟨k2, f3⟩
/-- all of H but d stands in H' -/
def Kept (d : Addr) (H H' : Hp) : Prop := ∀ x v, x ≠ d → H x = some v → H' x = some v
def spWallsP (K : PySem.W.Frag) (C : Addr) : Sp := fun vs H Q _ => ∃ (f o d l : Addr) (a b c : Nat) (us : List W) (u0 : W), vs = [.ref f, .ref l] ∧ FlAt K C H f o d a b c ∧ H l = some (.lst ((us.map wS).map V.str)) ∧ us[0]? = some u0 ∧ us.length ≤ 60 ∧ (∀ u ∈ us, u.length ≤ 60) ∧
  ∀ (ws : List W) D H', ws.Nodup → ws.length ≤ 8000 → (∀ y, y ∈ ws ↔ ∃ u ∈ us, y ∈ wls (nfw a b c) (nfw a b c u0) (nfw a b c ((nfw a b c u0).reverse ++ u)) (nfw a b c ((nfw a b c u0).reverse ++ u)).length) → H D = none → H' D = some (.dK (encW ws)) → FlAt K C H' f o d a b c → FK.But d H H' → Q (.ref D) H'
theorem ok_walls_parting (T : Txt K mg cx) : FK.Has P w K mg base CX0 7 "walls_parting" ["floor", "words"] (spWallsP K cx.Floor) := by
  have H_Floor_normal := ok_Floor_normal (P := P) (w := w) (mg := mg) (base := base) T
  have H_way_between := ok_way_between (P := P) (w := w) (base := base) T
  have H_wall_at := ok_wall_at (P := P) (w := w) (base := base) T
  refine T.d_walls_parting.ok sc_walls_parting (fun vs H Q E h => ?_) (fun f cdv A outer s H vs Q E hr h => ?_)
  · obtain ⟨f, o, d, l, a, b, c, us, u0, rfl, _⟩ := h
    rfl
  · obtain ⟨f, o, d, l, a, b, c, us, u0, rfl, F, hL, h0, ln, hu, q⟩ := h
    refine ⟨_, (pss_cons (ps_set (i := 2) sc_walls_parting.nd rfl (Or.inl rfl) (by exact (FK.pe_m (E := E0) (pv 0) T.cl_Floor H_Floor_normal (hr.mono (by decide)) pass0 (pa_cons (pe_ix (r := rIxL K) ix_list (pv 1) pe_int (fun _ _ => rfl)) pa_nil))))
  (pss_cons (ps_set (i := 3) sc_walls_parting.nd rfl (Or.inl rfl) pe_dnewT)
  (pss_cons (ps_for PassesOwn.never rfl (pi_list (pv 1)) (pg_name (i := 4) sc_walls_parting.nd rfl (Or.inl rfl))
  (pss_cons (ps_set (i := 5) sc_walls_parting.nd rfl (Or.inl rfl) (by exact (pv 2)))
  (pss_one (ps_for PassesOwn.never rfl (pi_str (FK.pe_h (E := E0) H_way_between (hr.mono (by decide)) pass0 (pa_cons (pv 0) (pa_cons (pv 2) (pa_cons (pv 4) pa_nil))))) (pg_name (i := 6) sc_walls_parting.nd rfl (Or.inl rfl))
  (pss_cons (ps_dput (hu_of hr) (pv 3) (pe_tup (pa_cons (pv 5) (pa_cons (pv 6) pa_nil))) pe_bl rfl)
  (pss_one (ps_set (i := 5) sc_walls_parting.nd rfl (Or.inl rfl) (by exact (FK.pe_m (E := E0) (pv 0) T.cl_Floor H_Floor_normal (hr.mono (by decide)) pass0 (pa_cons (pe_op op_add_str (pv 5) (pv 6)) pa_nil))))))))))
  (pss_one (ps_ret (pe_lock (pe_dc (own := [("tile", 7), ("letter", 6)]) (g := gTup _ 2 (gCons (gName 7) (gCons (gName 6) gNil))) (tt := tYes) rfl sc_walls_parting.nd (pi_keys (pv 3)) (blkOk_by (own := [("tile", 7), ("letter", 6)]) (N := ["floor", "words", "first", "sides", "word", "here", "letter", "tile"]) (sc := defScope s_walls_parting) (by decide +kernel)) (fun _ _ _ _ _ => (pg_tup rfl (pgs_cons (pg_name (i := 7) sc_walls_parting.nd rfl (Or.inl rfl)) (pgs_cons (pg_name (i := 6) sc_walls_parting.nd rfl (Or.inl rfl)) pgs_nil)))) (fun _ _ _ _ _ => pts_nil) (fun _ _ _ _ _ => (FK.pe_h (E := E0) H_wall_at (hr.mono (by decide)) pass0 (pa_cons (pv 0) (pa_cons (pv 7) (pa_cons (pv 6) pa_nil))))) (fun _ _ _ _ _ => pe_bl)))))))), ?_⟩
    simp only [tSeq, tIfS, tOr, tAnd, tB, tTest, tCB, tCons, tVar, tC, tNil, tNot, tNotV, tRet, tRetN, tNext, tBreak, tOrV, tAndV, tOp, tUn, rEq, rNe, tChain, rI0, rI, rU, tAsg, gName, tDrop, tAug, ipI, tIf, tCall, tCallS, tLst, tTup, tBM, tBM0, rAppend, rExtend, rPop, rReverse, tyV, rIxL, rIxT, rIxS, rIsB, rNotB, L2.start, List.map_cons, List.map_nil, List.length_cons, List.length_nil, List.replicate, List.cons_append, List.nil_append, List.append_nil, List.getElem?_cons_zero, List.getElem?_cons_succ, List.set_cons_zero, List.set_cons_succ, Nat.reduceAdd, Nat.reduceSub, Option.some.injEq, exists_eq_left', exists_eq_left, V.int.injEq, V.bl.injEq, V.str.injEq, V.ref.injEq, List.cons.injEq, and_true, true_and, and_assoc, reduceCtorEq, false_and, exists_false, or_false, false_or, exists_and_left, exists_const, scal, Int.reduceLT, Int.reduceLE, Int.reduceSub, Int.reduceAdd, Int.reduceNeg, if_true, if_false, tMeth]
    obtain ⟨dx, e1⟩ := F.ob
    have lu0 : u0.length ≤ 60 := hu u0 (List.mem_of_getElem? h0)
    refine ⟨dx, _, e1, fldsF_no _ _ (by decide +kernel) (by decide +kernel), _, SqL.of hL, _, atI_nat (j := 0) (by rw [List.getElem?_map, List.getElem?_map, h0]; rfl), f, o, d, a, b, c, u0, rfl, F, by omega, fun H1 F1 b1 => ?_⟩
    simp only [tSeq, tIfS, tOr, tAnd, tB, tTest, tCB, tCons, tVar, tC, tNil, tNot, tNotV, tRet, tRetN, tNext, tBreak, tOrV, tAndV, tOp, tUn, rEq, rNe, tChain, rI0, rI, rU, tAsg, gName, tDrop, tAug, ipI, tIf, tCall, tCallS, tLst, tTup, tBM, tBM0, rAppend, rExtend, rPop, rReverse, tyV, rIxL, rIxT, rIxS, rIsB, rNotB, L2.start, List.map_cons, List.map_nil, List.length_cons, List.length_nil, List.replicate, List.cons_append, List.nil_append, List.append_nil, List.getElem?_cons_zero, List.getElem?_cons_succ, List.set_cons_zero, List.set_cons_succ, Nat.reduceAdd, Nat.reduceSub, Option.some.injEq, exists_eq_left', exists_eq_left, V.int.injEq, V.bl.injEq, V.str.injEq, V.ref.injEq, List.cons.injEq, and_true, true_and, and_assoc, reduceCtorEq, false_and, exists_false, or_false, false_or, exists_and_left, exists_const, scal, Int.reduceLT, Int.reduceLE, Int.reduceSub, Int.reduceAdd, Int.reduceNeg, if_true, if_false, tDNewT]
    refine fun D1 hD1 => ?_
    obtain ⟨kd, hkd⟩ := F1.dd
    have nD1 : D1 ≠ d := fun z => by rw [z, hkd] at hD1; cases hD1
    have hD0 : H D1 = none := by
      cases e : H D1 with
      | none => rfl
      | some v => rw [b1 D1 v nD1 e] at hD1; cases hD1
    have N := fun (w : W) (hw : w.length ≤ 500) => nfw_ok (a := a) (b := b) (c := c) F.ha F.hb F.hc (w := w) (by omega)
    have Nl : ∀ (w : W), w.length ≤ 500 → (nfw a b c w).length ≤ w.length := fun w hw => by
      rw [(N w hw).2.2.1]
      exact ln_self w
    have Nc : ∀ {u v : W}, u.length ≤ 500 → v.length ≤ 500 → Eqv (om a b c) u v → nfw a b c u = nfw a b c v := fun hu hv h => nfw_congr F.ha F.hb F.hc hu hv h
    have lF : (nfw a b c u0).length ≤ 60 := by have := Nl u0 (by omega); omega
    have eF : nfw a b c (nfw a b c u0) = nfw a b c u0 := Nc (by omega) (by omega) (N u0 (by omega)).1.symm
    generalize nfw a b c u0 = F0 at q lF eF
    have lP : ∀ u ∈ us, (nfw a b c (F0.reverse ++ u)).length ≤ 120 := fun u h => by
      have h1 := hu u h
      have := Nl (F0.reverse ++ u) (by rw [List.length_append, List.length_reverse]; omega)
      rw [List.length_append, List.length_reverse] at this
      omega
    have lL : ((us.map wS).map V.str).length = us.length := by simp
    have nl : l ≠ d := F.nel hL
    have nlD : l ≠ D1 := fun z => by rw [z, hD0] at hL; cases hL
    refine FK.rd_for (J := Itl K l) (H1 := upd H1 D1 (.dT [])) (fun R r => ⟨_, rfl, l, rfl, ⟨_, SqL.of (FK.same_new hD1 _ _ (b1 _ _ nl hL))⟩, r⟩) (walk_list (xs := (us.map wS).map V.str))
      (fun j σ H' => ∃ (ss : List (W × Fin 3)) (v4 v5 v6 : Option V), σ = [some (.ref f), some (.ref l), some (.str (wS (F0))), some (.ref D1), v4, v5, v6, none] ∧ FlAt K cx.Floor H' f o d a b c ∧ H' D1 = some (.dT (encS ss)) ∧ FK.But d H H' ∧ (∀ s ∈ ss, s.1.length ≤ 200) ∧ ss.length ≤ 130 * j ∧
        ∀ y, (∃ s ∈ ss, nfw a b c (s.1 ++ [s.2] ++ s.1.reverse) = y) ↔ ∃ u ∈ us.take j, y ∈ wls (nfw a b c) F0 (nfw a b c (F0.reverse ++ u)) (nfw a b c (F0.reverse ++ u)).length)
      ⟨[], none, none, none, rfl, F1.same (FK.same_new hD1), upd_same, (fun b' u' hb e' => FK.same_new hD1 _ _ (b1 b' u' hb e')), (fun _ h => nomatch h), Nat.zero_le _, fun y => by simp⟩ (fun i σ H' _ ⟨_, _, _, _, _, _, _, b', _⟩ => SqL.of (b' _ _ nl hL)) ?_ ?_
    · rintro j x' σ Ha Hb hj ⟨ss, v4, v5, v6, rfl, Fa, eD, ba, hs, ls, hy⟩ ⟨rfl, hx⟩
      rw [lL] at hj
      obtain ⟨u, hju⟩ : ∃ u, us[j]? = some u := ⟨_, List.getElem?_eq_getElem hj⟩
      have hum := List.mem_of_getElem? hju
      rw [List.getElem?_map, List.getElem?_map, hju] at hx
      cases hx
      have lu := hu u hum
      have lp := lP u hum
      simp only [tSeq, tIfS, tOr, tAnd, tB, tTest, tCB, tCons, tVar, tC, tNil, tNot, tNotV, tRet, tRetN, tNext, tBreak, tOrV, tAndV, tOp, tUn, rEq, rNe, tChain, rI0, rI, rU, tAsg, gName, tDrop, tAug, ipI, tIf, tCall, tCallS, tLst, tTup, tBM, tBM0, rAppend, rExtend, rPop, rReverse, tyV, rIxL, rIxT, rIxS, rIsB, rNotB, L2.start, List.map_cons, List.map_nil, List.length_cons, List.length_nil, List.replicate, List.cons_append, List.nil_append, List.append_nil, List.getElem?_cons_zero, List.getElem?_cons_succ, List.set_cons_zero, List.set_cons_succ, Nat.reduceAdd, Nat.reduceSub, Option.some.injEq, exists_eq_left', exists_eq_left, V.int.injEq, V.bl.injEq, V.str.injEq, V.ref.injEq, List.cons.injEq, and_true, true_and, and_assoc, reduceCtorEq, false_and, exists_false, or_false, false_or, exists_and_left, exists_const, scal, Int.reduceLT, Int.reduceLE, Int.reduceSub, Int.reduceAdd, Int.reduceNeg, if_true, if_false]
      refine FK.for_str ?_
      simp only [tSeq, tIfS, tOr, tAnd, tB, tTest, tCB, tCons, tVar, tC, tNil, tNot, tNotV, tRet, tRetN, tNext, tBreak, tOrV, tAndV, tOp, tUn, rEq, rNe, tChain, rI0, rI, rU, tAsg, gName, tDrop, tAug, ipI, tIf, tCall, tCallS, tLst, tTup, tBM, tBM0, rAppend, rExtend, rPop, rReverse, tyV, rIxL, rIxT, rIxS, rIsB, rNotB, L2.start, List.map_cons, List.map_nil, List.length_cons, List.length_nil, List.replicate, List.cons_append, List.nil_append, List.append_nil, List.getElem?_cons_zero, List.getElem?_cons_succ, List.set_cons_zero, List.set_cons_succ, Nat.reduceAdd, Nat.reduceSub, Option.some.injEq, exists_eq_left', exists_eq_left, V.int.injEq, V.bl.injEq, V.str.injEq, V.ref.injEq, List.cons.injEq, and_true, true_and, and_assoc, reduceCtorEq, false_and, exists_false, or_false, false_or, exists_and_left, exists_const, scal, Int.reduceLT, Int.reduceLE, Int.reduceSub, Int.reduceAdd, Int.reduceNeg, if_true, if_false]
      refine ⟨f, o, d, a, b, c, F0, u, rfl, Fa, by omega, fun Hc Fc bc => ⟨_, rfl, ?_⟩⟩
      generalize hp : nfw a b c (F0.reverse ++ u) = p at lp
      refine FK.rd_for (J := Its (wS p)) (H1 := Hc) (fun R r => r) walk_str
        (fun k σ H' => ∃ (ss : List (W × Fin 3)) (v6 : Option V), σ = [some (.ref f), some (.ref l), some (.str (wS (F0))), some (.ref D1), some (.str (wS (u))), some (.str (wS ((nfw a b c (F0 ++ p.take k))))), v6, none] ∧ FlAt K cx.Floor H' f o d a b c ∧ H' D1 = some (.dT (encS ss)) ∧ FK.But d H H' ∧ (∀ s ∈ ss, s.1.length ≤ 200) ∧ ss.length ≤ 130 * j + k ∧
          ∀ y, (∃ s ∈ ss, nfw a b c (s.1 ++ [s.2] ++ s.1.reverse) = y) ↔ (∃ u ∈ us.take j, y ∈ wls (nfw a b c) F0 (nfw a b c (F0.reverse ++ u)) (nfw a b c (F0.reverse ++ u)).length) ∨ y ∈ wls (nfw a b c) F0 p k)
        ⟨ss, v6, by rw [List.take_zero, List.append_nil, eF], Fc, bc _ _ nD1 eD, ba.trans bc, hs, ls, fun y => by rw [hy y]; simp [wls]⟩ (fun _ _ _ _ _ => trivial) ?_ ?_
      · rintro k x' σ Hd He hk ⟨ss, v6, rfl, Fd, eDd, bd, hsd, lsd, hyd⟩ ⟨rfl, ch, hc, rfl⟩
        obtain ⟨l0, hl0, el0⟩ := wS_at hc
        rw [el0]
        have hk : k < p.length := by
          have h2 : (wS p).cps.size = p.length := wS_len p
          omega
        have ltk : (p.take k).length ≤ 120 := by rw [List.length_take]; omega
        have lh : (nfw a b c (F0 ++ p.take k)).length ≤ 180 := by
          have := Nl (F0 ++ p.take k) (by rw [List.length_append]; omega)
          rw [List.length_append] at this
          omega
        simp only [tSeq, tIfS, tOr, tAnd, tB, tTest, tCB, tCons, tVar, tC, tNil, tNot, tNotV, tRet, tRetN, tNext, tBreak, tOrV, tAndV, tOp, tUn, rEq, rNe, tChain, rI0, rI, rU, tAsg, gName, tDrop, tAug, ipI, tIf, tCall, tCallS, tLst, tTup, tBM, tBM0, rAppend, rExtend, rPop, rReverse, tyV, rIxL, rIxT, rIxS, rIsB, rNotB, L2.start, List.map_cons, List.map_nil, List.length_cons, List.length_nil, List.replicate, List.cons_append, List.nil_append, List.append_nil, List.getElem?_cons_zero, List.getElem?_cons_succ, List.set_cons_zero, List.set_cons_succ, Nat.reduceAdd, Nat.reduceSub, Option.some.injEq, exists_eq_left', exists_eq_left, V.int.injEq, V.bl.injEq, V.str.injEq, V.ref.injEq, List.cons.injEq, and_true, true_and, and_assoc, reduceCtorEq, false_and, exists_false, or_false, false_or, exists_and_left, exists_const, scal, Int.reduceLT, Int.reduceLE, Int.reduceSub, Int.reduceAdd, Int.reduceNeg, if_true, if_false, sDPut, tMeth]
        refine ⟨by decide, fun q1 hq1 => ?_⟩
        have eDq := FK.same_new (o := HO.tup [.str (wS (nfw a b c (F0 ++ p.take k))), .str (wS [l0])]) hq1 _ _ eDd
        have lts : (encS ss).length < sizeLine := by
          unfold encS
          rw [List.length_map]
          exact Nat.lt_of_le_of_lt (show ss.length ≤ 100000 by omega) (by decide)
        have hput := DPut.t (k := keyS (nfw a b c (F0 ++ p.take k), l0)) (v := V.bl true) eDq (upd_same (H := He) (a := q1)) lts
        rw [put_encS] at hput
        refine ⟨_, hput, ?_⟩
        have Fq := (Fd.same (FK.same_new (o := HO.tup [.str (wS (nfw a b c (F0 ++ p.take k))), .str (wS [l0])]) hq1)).frX (H' := upd (upd He q1 (.tup [.str (wS (nfw a b c (F0 ++ p.take k))), .str (wS [l0])])) D1 (.dT (encS (FK.addS ss (nfw a b c (F0 ++ p.take k), l0))))) eDq nD1 (fun _ h => nomatch h) (fun _ _ h => nomatch h) (fun _ _ _ h => nomatch h) (fun b' u' e' hb => by rw [upd_ne hb]; exact e')
        obtain ⟨dx2, e2⟩ := Fq.ob
        refine ⟨dx2, _, e2, fldsF_no _ _ (by decide +kernel) (by decide +kernel), by rw [wS_len, wS_len]; exact zl _ (by rw [List.length_singleton]; omega), f, o, d, a, b, c, nfw a b c (F0 ++ p.take k) ++ [l0], by rw [wS_app], Fq, by rw [List.length_append, List.length_singleton]; omega, fun H6 F6 b6 => ⟨?_, F6, _, b6 _ _ nD1 upd_same, fun x' v' ne e' => b6 x' v' ne ?_, fun s' hs' => ?_, ?_, fun y => ?_⟩⟩
        · have h1 := ((N (F0 ++ p.take k) (by rw [List.length_append]; omega)).1.symm).right [l0]
          have e3 : F0 ++ p.take k ++ [l0] = F0 ++ p.take (k + 1) := by
            rw [List.append_assoc, List.take_add_one, hl0]
            rfl
          rw [e3] at h1
          rw [Nc (by rw [List.length_append, List.length_singleton]; omega) (by rw [List.length_append, List.length_take]; omega) h1]
        · rw [upd_ne (fun z => by rw [z, hD0] at e'; cases e')]
          exact FK.same_new hq1 _ _ (bd x' v' ne e')
        · rcases FK.mem_addS.mp hs' with h | h
          · exact hsd s' h
          · rw [h]
            show (nfw a b c (F0 ++ p.take k)).length ≤ 200
            omega
        · have := FK.len_addS (l := ss) (a := (nfw a b c (F0 ++ p.take k), l0))
          omega
        · have ew : nfw a b c (nfw a b c (F0 ++ p.take k) ++ [l0] ++ (nfw a b c (F0 ++ p.take k)).reverse) = wlAt (nfw a b c) F0 p k := by
            unfold wlAt
            have e3 : (p.drop k).take 1 = [l0] := by
              rw [ltr_of hk]
              rw [List.getElem?_eq_getElem hk] at hl0
              rw [Option.some.inj hl0]
            rw [e3]
            have h1 := (N (F0 ++ p.take k) (by rw [List.length_append]; omega)).1
            exact Nc (by simp only [List.length_append, List.length_reverse, List.length_singleton]; omega) (by simp only [List.length_append, List.length_reverse, List.length_singleton]; omega) ((h1.symm.right _).mul h1.symm.rev)
          rw [wls_succ, List.mem_append, List.mem_singleton]
          constructor
          · rintro ⟨s', h1, h2⟩
            rcases FK.mem_addS.mp h1 with h | h
            · rcases (hyd y).mp ⟨s', h, h2⟩ with h3 | h3
              · exact .inl h3
              · exact .inr (.inl h3)
            · rw [h] at h2
              exact .inr (.inr (by rw [← h2, ← ew]))
          · rintro (h3 | h3 | h3)
            · obtain ⟨s', h1, h2⟩ := (hyd y).mpr (.inl h3)
              exact ⟨s', FK.mem_addS.mpr (.inl h1), h2⟩
            · obtain ⟨s', h1, h2⟩ := (hyd y).mpr (.inr h3)
              exact ⟨s', FK.mem_addS.mpr (.inl h1), h2⟩
            · exact ⟨_, FK.mem_addS.mpr (.inr rfl), by rw [h3, ← ew]⟩
      · rintro σ Hd ⟨ss, v6, rfl, Fd, eDd, bd, hsd, lsd, hyd⟩
        have h2 : (wS p).cps.size = p.length := wS_len p
        rw [h2] at lsd hyd
        refine ⟨ss, _, _, _, rfl, Fd, eDd, bd, hsd, by omega, fun y => ?_⟩
        rw [hyd y, List.take_add_one, hju]
        simp only [Option.toList_some, List.mem_append, List.mem_singleton]
        constructor
        · rintro (⟨u', h1, h2⟩ | h)
          · exact ⟨u', .inl h1, h2⟩
          · exact ⟨u, .inr rfl, by rw [hp]; exact h⟩
        · rintro ⟨u', h1 | rfl, h2⟩
          · exact .inl ⟨u', h1, h2⟩
          · rw [hp] at h2
            exact .inr h2
    · rintro σ Ha ⟨ss, v4, v5, v6, rfl, Fa, eD, ba, hs, ls, hy⟩
      rw [lL] at ls
      rw [lL, List.take_length] at hy
      simp only [tSeq, tIfS, tOr, tAnd, tB, tTest, tCB, tCons, tVar, tC, tNil, tNot, tNotV, tRet, tRetN, tNext, tBreak, tOrV, tAndV, tOp, tUn, rEq, rNe, tChain, rI0, rI, rU, tAsg, gName, tDrop, tAug, ipI, tIf, tCall, tCallS, tLst, tTup, tBM, tBM0, rAppend, rExtend, rPop, rReverse, tyV, rIxL, rIxT, rIxS, rIsB, rNotB, L2.start, List.map_cons, List.map_nil, List.length_cons, List.length_nil, List.replicate, List.cons_append, List.nil_append, List.append_nil, List.getElem?_cons_zero, List.getElem?_cons_succ, List.set_cons_zero, List.set_cons_succ, Nat.reduceAdd, Nat.reduceSub, Option.some.injEq, exists_eq_left', exists_eq_left, V.int.injEq, V.bl.injEq, V.str.injEq, V.ref.injEq, List.cons.injEq, and_true, true_and, and_assoc, reduceCtorEq, false_and, exists_false, or_false, false_or, exists_and_left, exists_const, scal, Int.reduceLT, Int.reduceLE, Int.reduceSub, Int.reduceAdd, Int.reduceNeg, if_true, if_false, tLockE]
      refine ⟨D1, _, eD, trivial, fun od => ?_⟩
      have FZ := Fa.frX (H' := upd Ha D1 (.frz od (.dT (encS ss)))) eD nD1 (fun _ h => nomatch h) (fun _ _ h => nomatch h) (fun _ _ _ h => nomatch h) (fun b' u' e' hb => by rw [upd_ne hb]; exact e')
      refine ⟨_, rfl, D1, od, rfl, .inr ⟨_, upd_same, fun D hD => ?_⟩⟩
      have nDd : D ≠ d := FZ.ned hD
      have nDD1 : D ≠ D1 := fun z => by rw [z, upd_same] at hD; cases hD
      have hDH : H D = none := by
        cases e : H D with
        | none => rfl
        | some v =>
          rw [upd_ne nDD1, ba D v nDd e] at hD
          cases hD
      have lE : (encS ss).length = ss.length := by unfold encS; rw [List.length_map]
      refine FK.dc_it (walk_keysT (d := D1) (o := od) (kvs := encS ss)) (fun i H' => ∃ ws : List W, H' D = some (.dK (encW ws)) ∧ ws.Nodup ∧ ws.length ≤ i ∧ FlAt K cx.Floor H' f o d a b c ∧ H' D1 = some (.frz od (.dT (encS ss))) ∧ (∀ x v, x ≠ d → x ≠ D1 → H x = some v → H' x = some v) ∧
          ∀ y, y ∈ ws ↔ ∃ s ∈ ss.take i, nfw a b c (s.1 ++ [s.2] ++ s.1.reverse) = y)
        ⟨[], upd_same, List.Pairwise.nil, Nat.le_refl _, FZ.same (FK.same_new hD), FK.same_new hD _ _ upd_same, (fun x' v' h1 h2 e' => FK.same_new hD _ _ (by rw [upd_ne h2]; exact ba x' v' h1 e')), fun y => by simp⟩ (fun _ _ _ ⟨_, _, _, _, _, h, _⟩ => h) ?_ ?_
      · rintro i x' Hb Hc hi ⟨ws, eW, nd, lw, Fb, eDb, kb, hm⟩ ⟨rfl, kk, vv, qq, hk, rfl, hqq⟩
        rw [lE] at hi
        have hsi : ss[i]? = some ss[i] := List.getElem?_eq_getElem hi
        unfold encS at hk
        rw [List.getElem?_map, hsi] at hk
        cases hk
        have ls1 := hs _ (List.getElem_mem hi)
        refine ⟨qq, _, rfl, SqT.of hqq, rfl, ?_⟩
        simp only [tSeq, tIfS, tOr, tAnd, tB, tTest, tCB, tCons, tVar, tC, tNil, tNot, tNotV, tRet, tRetN, tNext, tBreak, tOrV, tAndV, tOp, tUn, rEq, rNe, tChain, rI0, rI, rU, tAsg, gName, tDrop, tAug, ipI, tIf, tCall, tCallS, tLst, tTup, tBM, tBM0, rAppend, rExtend, rPop, rReverse, tyV, rIxL, rIxT, rIxS, rIsB, rNotB, L2.start, List.map_cons, List.map_nil, List.length_cons, List.length_nil, List.replicate, List.cons_append, List.nil_append, List.append_nil, List.getElem?_cons_zero, List.getElem?_cons_succ, List.set_cons_zero, List.set_cons_succ, Nat.reduceAdd, Nat.reduceSub, Option.some.injEq, exists_eq_left', exists_eq_left, V.int.injEq, V.bl.injEq, V.str.injEq, V.ref.injEq, List.cons.injEq, and_true, true_and, and_assoc, reduceCtorEq, false_and, exists_false, or_false, false_or, exists_and_left, exists_const, scal, Int.reduceLT, Int.reduceLE, Int.reduceSub, Int.reduceAdd, Int.reduceNeg, if_true, if_false, wipe]
        refine ⟨.str (wS ss[i].1), [.str (wS [ss[i].2])], rfl, ?_⟩
        refine ⟨.str (wS [ss[i].2]), [], rfl, ?_⟩
        refine ⟨rfl, ?_⟩
        simp only [tSeq, tIfS, tOr, tAnd, tB, tTest, tCB, tCons, tVar, tC, tNil, tNot, tNotV, tRet, tRetN, tNext, tBreak, tOrV, tAndV, tOp, tUn, rEq, rNe, tChain, rI0, rI, rU, tAsg, gName, tDrop, tAug, ipI, tIf, tCall, tCallS, tLst, tTup, tBM, tBM0, rAppend, rExtend, rPop, rReverse, tyV, rIxL, rIxT, rIxS, rIsB, rNotB, L2.start, List.map_cons, List.map_nil, List.length_cons, List.length_nil, List.replicate, List.cons_append, List.nil_append, List.append_nil, List.getElem?_cons_zero, List.getElem?_cons_succ, List.set_cons_zero, List.set_cons_succ, Nat.reduceAdd, Nat.reduceSub, Option.some.injEq, exists_eq_left', exists_eq_left, V.int.injEq, V.bl.injEq, V.str.injEq, V.ref.injEq, List.cons.injEq, and_true, true_and, and_assoc, reduceCtorEq, false_and, exists_false, or_false, false_or, exists_and_left, exists_const, scal, Int.reduceLT, Int.reduceLE, Int.reduceSub, Int.reduceAdd, Int.reduceNeg, if_true, if_false]
        refine ⟨f, o, d, a, b, c, ss[i].1, ss[i].2, rfl, Fb, by omega, fun H5 F5 b5 => ⟨encW ws, keyW (nfw a b c (ss[i].1 ++ [ss[i].2] ++ ss[i].1.reverse)), rfl, b5 _ _ nDd eW, ?_, FK.addS ws (nfw a b c (ss[i].1 ++ [ss[i].2] ++ ss[i].1.reverse)), ?_, FK.nd_addS nd, ?_, ?_, ?_, fun x' v' h1 h2 e' => ?_, fun y => ?_⟩⟩
        · unfold encW
          rw [List.length_map]
          exact Nat.lt_of_le_of_lt (show ws.length ≤ 100000 by omega) (by decide)
        · rw [upd_same, put_encW]
        · have := FK.len_addS (l := ws) (a := nfw a b c (ss[i].1 ++ [ss[i].2] ++ ss[i].1.reverse))
          omega
        · exact F5.frX (b5 _ _ nDd eW) nDd (fun _ h => nomatch h) (fun _ _ h => nomatch h) (fun _ _ _ h => nomatch h) (fun b' u' e' hb => by rw [upd_ne hb]; exact e')
        · rw [upd_ne nDD1.symm]
          exact b5 _ _ nD1 eDb
        · rw [upd_ne (fun z => by rw [z, hDH] at e'; cases e')]
          exact b5 _ _ h1 (kb x' v' h1 h2 e')
        · rw [FK.mem_addS, hm y, List.take_add_one, hsi]
          simp only [Option.toList_some, List.mem_append, List.mem_singleton]
          constructor
          · rintro (⟨s', h1, h2⟩ | h)
            · exact ⟨s', .inl h1, h2⟩
            · exact ⟨_, .inr rfl, h.symm⟩
          · rintro ⟨s', h1 | rfl, h2⟩
            · exact .inl ⟨s', h1, h2⟩
            · exact .inr h2.symm
      · rintro Hb ⟨ws, eW, nd, lw, Fb, eDb, kb, hm⟩
        rw [lE] at lw hm
        rw [List.take_length] at hm
        refine ⟨eDb, q ws D _ nd (by omega) (fun y => by rw [hm y, hy y]) hDH (by rw [upd_ne nDD1]; exact eW) (Fb.frX eDb nD1 (fun _ h => nomatch h) (fun _ _ h => nomatch h) (fun _ _ _ h => nomatch h) (fun b' u' e' hb => by rw [upd_ne hb]; exact e')) fun x' v' ne e' => ?_⟩
        have h1 : x' ≠ D1 := fun z => by rw [z, hD0] at e'; cases e'
        rw [upd_ne h1]
        exact kb x' v' ne h1 e'

/-! tiles to which one comes by crossing walls of a set -/
inductive Wk (nf : W → W) (S : W → Prop) (d : W) : W → Prop
  | refl : Wk nf S d d
  | step {u : W} (l : Fin 3) : Wk nf S d u → S (nf (u ++ [l] ++ u.reverse)) → Wk nf S d (nf (u ++ [l]))
theorem Wk.mono {nf : W → W} {S S' : W → Prop} {d u : W} (h : Wk nf S d u) (hs : ∀ y, S y → S' y) : Wk nf S' d u := by
  induction h with
  | refl => exact .refl
  | step l _ hw ih => exact .step l ih (hs _ hw)
theorem Wk.trans {nf : W → W} {S : W → Prop} {d u v : W} (h : Wk nf S d u) (k : Wk nf S u v) : Wk nf S d v := by
  induction k with
  | refl => exact h
  | step l _ hw ih => exact .step l ih hw
theorem sub_lenW : ∀ {p q : List W}, p.Nodup → (∀ x ∈ p, x ∈ q) → p.length ≤ q.length
  | [], _, _, _ => Nat.zero_le _
  | a :: p, q, nd, h => by
    have nd := List.pairwise_cons.mp nd
    have ha := h a List.mem_cons_self
    have h2 := sub_lenW (p := p) (q := q.erase a) nd.2 fun x hx => (List.mem_erase_of_ne (fun e => nd.1 x hx e.symm)).mpr (h x (List.mem_cons_of_mem _ hx))
    rw [List.length_erase_of_mem ha] at h2
    have := List.length_pos_of_mem ha
    rw [List.length_cons]
    omega
section
variable {m : Fin 3 → Fin 3 → Nat} {nf : W → W} (hN : NF m nf)
theorem wlsC_len (t p : W) : (wlsC nf t p).length = p.length := by unfold wlsC; rw [List.length_map, List.length_range]
theorem wlsC_snoc (t p : W) (l : Fin 3) : wlsC nf t (p ++ [l]) = wlsC nf t p ++ [nf (t ++ p ++ [l] ++ (t ++ p).reverse)] := by
  unfold wlsC
  rw [List.length_append, List.length_singleton, List.range_succ, List.map_append]
  congr 1
  · refine List.map_congr_left fun k hk => ?_
    have hk := List.mem_range.mp hk
    rw [List.take_append_of_le_length (by omega), List.drop_append_of_le_length (by omega), List.take_append_of_le_length (by rw [List.length_drop]; omega)]
  · rw [List.map_singleton, List.take_append_of_le_length (Nat.le_refl _), List.take_length, List.drop_append_of_le_length (Nat.le_refl _), List.drop_length]
    rfl
include hN
theorem Wk.walls (hR : ∀ u : W, u.length ≤ 500 → Red m (nf u)) {S : W → Prop} {ws : List W} (hw : ∀ y, S y → y ∈ ws) (lw : ws.length ≤ 50) {d : W} (ld : d.length ≤ 60) (nd : nf d = d) {u : W} (h : Wk nf S d u) :
    nf u = u ∧ u.length ≤ d.length + ws.length ∧ ∃ p, Eqv m (d ++ p) u ∧ Red m p ∧ p.length ≤ ws.length ∧ ∀ y ∈ wlsC nf d p, S y := by
  induction h with
  | refl =>
    refine ⟨nd, Nat.le_add_right _ _, [], by rw [List.append_nil]; exact .refl _, ?_, Nat.zero_le _, fun y hy => ?_⟩
    · show ln m [] = 0
      have := ln_self (m := m) []
      exact Nat.le_zero.mp this
    · cases hy
  | @step u l _ hs ih =>
    obtain ⟨nu, lu, p, ep, rp, lp, hp⟩ := ih
    have lpl : (p ++ [l]).length ≤ 51 := by rw [List.length_append, List.length_singleton]; omega
    have e1 := hN.e (p ++ [l]) (by omega)
    have r1 := hR (p ++ [l]) (by omega)
    have l1 := hN.l (p ++ [l]) (by omega)
    have lul : (u ++ [l]).length ≤ 500 := by rw [List.length_append, List.length_singleton]; omega
    have e2 := hN.e (u ++ [l]) lul
    have eq : Eqv m (d ++ nf (p ++ [l])) (nf (u ++ [l])) := by
      have h1 := ep.right [l]
      rw [List.append_assoc] at h1
      exact ((e1.symm.left d).trans h1).trans e2
    have hall : ∀ y ∈ wlsC nf d (nf (p ++ [l])), S y := fun y hy => by
      have h1 := (odd_walls hN ld (by omega) (by omega) r1 e1 y).mp hy
      have h2 : y ∈ wlsC nf d (p ++ [l]) := by
        refine List.count_pos_iff.mp ?_
        omega
      rw [wlsC_snoc] at h2
      rcases List.mem_append.mp h2 with h3 | h3
      · exact hp y h3
      · rw [List.mem_singleton.mp h3]
        have : nf (d ++ p ++ [l] ++ (d ++ p).reverse) = nf (u ++ [l] ++ u.reverse) := hN.c _ _ (by simp only [List.length_append, List.length_reverse, List.length_singleton]; omega) (by simp only [List.length_append, List.length_reverse, List.length_singleton]; omega) ((ep.right _).mul ep.rev)
        rw [this]
        exact hs
    have len : (nf (p ++ [l])).length ≤ ws.length := by
      have h1 := sub_lenW (wlsC_nodup hN ld (by omega) r1) (fun y hy => hw y (hall y hy))
      rwa [wlsC_len] at h1
    have nn : nf (nf (u ++ [l])) = nf (u ++ [l]) := hN.c _ _ (by have := hN.l (u ++ [l]) lul; omega) lul e2.symm
    refine ⟨nn, ?_, nf (p ++ [l]), eq, r1, len, hall⟩
    have h3 : nf (d ++ nf (p ++ [l])) = nf (nf (u ++ [l])) := hN.c _ _ (by rw [List.length_append]; omega) (by have := hN.l (u ++ [l]) lul; omega) eq
    rw [nn] at h3
    rw [← h3]
    have h4 := hN.l (d ++ nf (p ++ [l])) (by rw [List.length_append]; omega)
    rw [List.length_append] at h4
    omega
theorem Wk.path {S : W → Prop} {d p : W} (ld : d.length ≤ 60) (lp : p.length ≤ 60) (nd : nf d = d) (h : ∀ y ∈ wlsC nf d p, S y) : Wk nf S d (nf (d ++ p)) := by
  have key : ∀ k, k ≤ p.length → Wk nf S d (nf (d ++ p.take k)) := by
    intro k
    induction k with
    | zero =>
      intro _
      rw [List.take_zero, List.append_nil, nd]
      exact .refl
    | succ k ih =>
      intro hk
      have w1 := ih (by omega)
      have lt : (d ++ p.take k).length ≤ 120 := by rw [List.length_append, List.length_take]; omega
      have e1 := hN.e (d ++ p.take k) (by omega)
      have l1 := hN.l (d ++ p.take k) (by omega)
      have ek : p.take (k + 1) = p.take k ++ [p[k]] := by rw [List.take_add_one, List.getElem?_eq_getElem (by omega)]; rfl
      have st := w1.step (S := S) (p[k]'(by omega)) (by
        have : nf (nf (d ++ p.take k) ++ [p[k]] ++ (nf (d ++ p.take k)).reverse) = nf (d ++ p.take k ++ (p.drop k).take 1 ++ (d ++ p.take k).reverse) := by
          rw [ltr_of (show k < p.length by omega)]
          exact hN.c _ _ (by simp only [List.length_append, List.length_reverse, List.length_singleton] at *; omega) (by simp only [List.length_append, List.length_reverse, List.length_singleton] at *; omega) ((e1.symm.right _).mul e1.symm.rev)
        rw [this]
        exact h _ (List.mem_map.mpr ⟨k, List.mem_range.mpr (by omega), rfl⟩))
      have : nf (nf (d ++ p.take k) ++ [p[k]]) = nf (d ++ p.take (k + 1)) := by
        rw [ek, ← List.append_assoc]
        exact hN.c _ _ (by simp only [List.length_append, List.length_singleton] at *; omega) (by simp only [List.length_append, List.length_singleton] at *; omega) (e1.symm.right _)
      rwa [this] at st
  have := key p.length (Nat.le_refl _)
  rwa [List.take_length] at this
theorem Wk.symm (hR : ∀ u : W, u.length ≤ 500 → Red m (nf u)) {S : W → Prop} {ws : List W} (hw : ∀ y, S y → y ∈ ws) (lw : ws.length ≤ 50) {d : W} (ld : d.length ≤ 60) (nd : nf d = d) {u : W} (h : Wk nf S d u) : Wk nf S u d := by
  induction h with
  | refl => exact .refl
  | @step u l h0 hs ih =>
    obtain ⟨nu, lu, _⟩ := Wk.walls hN hR hw lw ld nd h0
    have lul : (u ++ [l]).length ≤ 111 := by rw [List.length_append, List.length_singleton]; omega
    have e1 := hN.e (u ++ [l]) (by omega)
    have l1 := hN.l (u ++ [l]) (by omega)
    have ec : Eqv m (nf (u ++ [l]) ++ [l]) u := by
      have h := (Eqv.cancel (m := m) l).left u
      rw [List.append_nil] at h
      have h1 := e1.symm.right [l]
      rw [List.append_assoc] at h1
      exact h1.trans h
    have e2 : nf (nf (u ++ [l]) ++ [l]) = u := by
      have := hN.c (nf (u ++ [l]) ++ [l]) u (by rw [List.length_append, List.length_singleton]; omega) (by omega) ec
      rw [this, nu]
    have st : Wk nf S (nf (u ++ [l])) (nf (nf (u ++ [l]) ++ [l])) := .step l .refl (by
      have : nf (nf (u ++ [l]) ++ [l] ++ (nf (u ++ [l])).reverse) = nf (u ++ [l] ++ u.reverse) := hN.c _ _ (by simp only [List.length_append, List.length_reverse, List.length_singleton] at *; omega) (by simp only [List.length_append, List.length_reverse, List.length_singleton] at *; omega) (by
        have h2 := ec.mul e1.symm.rev
        rw [List.reverse_append, ← List.append_assoc u] at h2
        exact h2)
      rw [this]
      exact hs)
    rw [e2] at st
    exact st.trans ih
/-- what is reached is reached again over the walls between what was reached -/
theorem Wk.again (hR : ∀ u : W, u.length ≤ 500 → Red m (nf u)) {S : W → Prop} {ws : List W} (hw : ∀ y, S y → y ∈ ws) (lw : ws.length ≤ 50) {t0 d0 : W} (l0 : t0.length ≤ 10) (n0 : nf t0 = t0) (h0 : Wk nf S t0 d0) {S' : W → Prop} (hS : ∀ y, S' y ↔ ∃ t, Wk nf S t0 t ∧ y ∈ wlsC nf d0 (nf (d0.reverse ++ t))) (u : W) : Wk nf S' d0 u ↔ Wk nf S t0 u := by
  obtain ⟨nd, ldd, _⟩ := Wk.walls hN hR hw lw (by omega) n0 h0
  have back := Wk.symm hN hR hw lw (by omega) n0 h0
  have par : ∀ t, Wk nf S t0 t → nf t = t ∧ t.length ≤ 60 ∧ Red m (nf (d0.reverse ++ t)) ∧ (nf (d0.reverse ++ t)).length ≤ 50 ∧ Eqv m (d0 ++ nf (d0.reverse ++ t)) t ∧ ∀ y ∈ wlsC nf d0 (nf (d0.reverse ++ t)), S y := fun t ht => by
    obtain ⟨nt, lt, _⟩ := Wk.walls hN hR hw lw (by omega) n0 ht
    obtain ⟨_, _, p, ep, rp, lp, hp⟩ := Wk.walls hN hR hw lw (by omega) nd (back.trans ht)
    have lrt : (d0.reverse ++ t).length ≤ 120 := by rw [List.length_append, List.length_reverse]; omega
    have e1 := hN.e (d0.reverse ++ t) (by omega)
    have r1 := hR (d0.reverse ++ t) (by omega)
    have e2 : Eqv m p (d0.reverse ++ t) := by
      have h1 := ep.left d0.reverse
      rw [← List.append_assoc] at h1
      exact ((Eqv.inv_left d0).right p |>.symm).trans h1
    have e3 := e2.trans e1
    have l3 : (nf (d0.reverse ++ t)).length = p.length := by
      have a1 : ln m p = p.length := rp
      have a2 : ln m (nf (d0.reverse ++ t)) = _ := r1
      rw [← a1, ← a2]
      exact (ln_eqv e3).symm
    refine ⟨nt, by omega, r1, by omega, ?_, fun y hy => ?_⟩
    · exact (e3.symm.left d0).trans ep
    · have h1 := (odd_walls hN (by omega) (by omega) (by omega) r1 e3 y).mp hy
      refine hp y (List.count_pos_iff.mp ?_)
      omega
  constructor
  · intro h
    exact h0.trans (h.mono fun y hy => by
      obtain ⟨t, ht, h1⟩ := (hS y).mp hy
      exact (par t ht).2.2.2.2.2 y h1)
  · intro h
    obtain ⟨nt, lt, r1, l1, e1, hp⟩ := par u h
    have := Wk.path hN (S := S') (d := d0) (p := nf (d0.reverse ++ u)) (by omega) (by omega) nd fun y hy => (hS y).mpr ⟨u, h, hy⟩
    have e2 : nf (d0 ++ nf (d0.reverse ++ u)) = u := by
      rw [hN.c _ _ (by rw [List.length_append]; omega) (by omega) e1, nt]
    rwa [e2] at this
theorem Wk.inside (hR : ∀ u : W, u.length ≤ 500 → Red m (nf u)) {S : W → Prop} {ws : List W} (hw : ∀ y, S y → y ∈ ws) (lw : ws.length ≤ 50) {t0 d0 : W} (l0 : t0.length ≤ 10) (n0 : nf t0 = t0) (h0 : Wk nf S t0 d0) {S' : W → Prop} (hS : ∀ y, S' y → ∃ t, Wk nf S t0 t ∧ y ∈ wlsC nf d0 (nf (d0.reverse ++ t))) {u : W} (h : Wk nf S' d0 u) : Wk nf S t0 u :=
  (Wk.again hN hR hw lw l0 n0 h0 (S' := fun y => ∃ t, Wk nf S t0 t ∧ y ∈ wlsC nf d0 (nf (d0.reverse ++ t))) (fun _ => Iff.rfl) u).mp (h.mono hS)
end

theorem val_encW (w : W) : ∀ us : List W, valV (encW us) (keyW w) = if w ∈ us then some (V.bl true) else none
  | [] => rfl
  | t :: us => by
    show valV ((keyW t, V.bl true) :: encW us) (keyW w) = _
    by_cases c : t = w
    · subst c
      rw [valV_pos (p := (keyW t, V.bl true)) rfl, if_pos List.mem_cons_self]
    · rw [valV_neg (p := (keyW t, V.bl true)) (fun z => c (keyW_inj _ _ z)), val_encW w us]
      by_cases c2 : w ∈ us
      · rw [if_pos c2, if_pos (List.mem_cons_of_mem _ c2)]
      · rw [if_neg c2, if_neg (fun z => by
          rcases List.mem_cons.mp z with e | e
          · exact c e.symm
          · exact c2 e)]


end
end K32

namespace K32
open PySem PySem.Spec PyProof.Rows L2 Cox
section
variable {P : Program} {w : World} {K : PySem.W.Frag} {mg : Str → Option Value} {base : Heap} {cx : Xs}
/-- tiles that were reached over walls of a set, and those of them that are in the queue -/
structure WInv (nf : W → W) (S : W → Prop) (t0 : W) (ex : W → Prop) (rs qs : List W) : Prop where
  nd : rs.Nodup
  rch : ∀ r ∈ rs, Wk nf S t0 r
  h0 : t0 ∈ rs
  qsub : ∀ r ∈ qs, r ∈ rs
  len : ∀ r ∈ rs, r.length + 1 ≤ t0.length + rs.length
  cl : ∀ r ∈ rs, r ∈ qs ∨ ex r ∨ ∀ l, S (nf (r ++ [l] ++ r.reverse)) → nf (r ++ [l]) ∈ rs
theorem WInv.add {nf : W → W} {S : W → Prop} {t0 : W} {ex : W → Prop} {rs qs : List W} (h : WInv nf S t0 ex rs qs) {t : W} {l : Fin 3} (ht : t ∈ rs) (hS : S (nf (t ++ [l] ++ t.reverse))) (hl : (nf (t ++ [l])).length ≤ t.length + 1) (hn : nf (t ++ [l]) ∉ rs) : WInv nf S t0 ex (rs ++ [nf (t ++ [l])]) (qs ++ [nf (t ++ [l])]) := by
  refine ⟨List.nodup_append.mpr ⟨h.nd, List.pairwise_singleton _ _, fun p hp q hq e => hn ?_⟩, fun r hr => ?_, List.mem_append_left _ h.h0, fun r hr => ?_, fun r hr => ?_, fun r hr => ?_⟩
  · have e : p = nf (t ++ [l]) := e.trans (List.mem_singleton.mp hq)
    exact e ▸ hp
  · rcases List.mem_append.mp hr with h1 | h1
    · exact h.rch r h1
    · rw [List.mem_singleton.mp h1]; exact .step l (h.rch t ht) hS
  · rcases List.mem_append.mp hr with h1 | h1
    · exact List.mem_append_left _ (h.qsub r h1)
    · exact List.mem_append_right _ h1
  · rw [List.length_append, List.length_singleton]
    rcases List.mem_append.mp hr with h1 | h1
    · have := h.len r h1
      omega
    · rw [List.mem_singleton.mp h1]
      have := h.len t ht
      omega
  · rcases List.mem_append.mp hr with h1 | h1
    · rcases h.cl r h1 with c | c | c
      · exact .inl (List.mem_append_left _ c)
      · exact .inr (.inl c)
      · exact .inr (.inr fun l hl => List.mem_append_left _ (c l hl))
    · exact .inl (List.mem_append_right _ h1)
theorem WInv.done {nf : W → W} {S : W → Prop} {t0 : W} {rs : List W} (h : WInv nf S t0 (fun _ => False) rs []) (y : W) : y ∈ rs ↔ Wk nf S t0 y := by
  refine ⟨h.rch y, fun hy => ?_⟩
  induction hy with
  | refl => exact h.h0
  | step l hr hs ih =>
    rcases h.cl _ ih with c | c | c
    · cases c
    · exact c.elim
    · exact c l hs
def spWithin (K : PySem.W.Frag) (C CT : Addr) : Sp := fun vs H Q E => ∃ (f o d D : Addr) (a b c most : Nat) (t0 : W) (ws : List W), vs = [.ref f, .str (wS t0), .ref D, .int (most : Nat)] ∧ FlAt K C H f o d a b c ∧ H D = some (.dK (encW ws)) ∧ D ≠ d ∧ t0.length ≤ 50 ∧ (most = 200 ∨ most = 60) ∧
  (∀ rs : List W, rs.Nodup → (∀ r ∈ rs, Wk (nfw a b c) (fun y => y ∈ ws) t0 r) → most < rs.length → ∀ H', FK.But d H H' → E (.ref CT) none H') ∧
  ∀ (rs : List W) L H', rs.Nodup → (∀ y, y ∈ rs ↔ Wk (nfw a b c) (fun y => y ∈ ws) t0 y) → rs.length ≤ most → (∀ r ∈ rs, r.length ≤ 300) → H L = none → H' L = some (.lst ((rs.map wS).map V.str)) → FlAt K C H' f o d a b c → FK.But d H H' → Q (.ref L) H'
theorem ok_tiles_within (T : Txt K mg cx) : FK.Has P w K mg base (L2.CX P w) 8 "tiles_within" ["floor", "first", "walls", "most"] (spWithin K cx.Floor cx.TooLarge) := by
  have H_Floor_normal := ok_Floor_normal (P := P) (w := w) (mg := mg) (base := base) T
  have H_wall_at := ok_wall_at (P := P) (w := w) (base := base) T
  refine T.d_tiles_within.okX sc_tiles_within (fun vs H Q E h => ?_) (fun f' cdv A outer s H vs Q E hr h => ?_)
  · obtain ⟨f, o, d, D, a, b, c, most, t0, ws, rfl, _⟩ := h
    rfl
  · obtain ⟨f, o, d, D, a, b, c, most, t0, ws, rfl, F, eD0, nDd, l0, hm, qE, q⟩ := h
    refine ⟨_, (pss_cons (ps_set (i := 4) sc_tiles_within.nd rfl (Or.inl rfl) (by exact (pe_disp (pps_cons (pv 1) pe_bl pps_nil) (by rfl) (by rfl) (fun z => by cases z) (by decide))))
  (pss_cons (ps_set (i := 5) sc_tiles_within.nd rfl (Or.inl rfl) (by exact (pe_lst (pa_cons (pv 1) pa_nil))))
  (pss_cons (ps_while (passes_of rfl) (pt_cmpR (op_neD hr.units) (pv 5) (pe_lst pa_nil) (nomark _)) (pss_cons (ps_set (i := 6) sc_tiles_within.nd rfl (Or.inl rfl) (by exact (pe_bm0 PySem.F.plainAttrs_list PySem.F.slot_list_pop PySem.F.type_list_pop mt_pop (pv 5))))
  (pss_cons (ps_for (passes_of rfl) rfl (pi_str (pe_glob (v := .str "012") rfl T.c_LETTERS ⟨_, rfl⟩)) (pg_name (i := 7) sc_tiles_within.nd rfl (Or.inl rfl))
  (pss_cons (ps_set (i := 8) sc_tiles_within.nd rfl (Or.inl rfl) (by exact (FK.pe_m (E := E0) (pv 0) T.cl_Floor H_Floor_normal (hr.mono (by decide)) pass0 (pa_cons (pe_op op_add_str (pv 6) (pv 7)) pa_nil))))
  (pss_one (ps_if (PW.pt (pw_and (pt_cmp (pc_dnotin (hu_of hr) (pv 8) (pv 4))) (pw_and1 (pt_cmp (pc_din (hu_of hr) (FK.pe_h (E := E0) H_wall_at (hr.mono (by decide)) pass0 (pa_cons (pv 0) (pa_cons (pv 6) (pa_cons (pv 7) pa_nil)))) (pv 2)))))) (pss_cons (ps_dput (hu_of hr) (pv 4) (pv 8) pe_bl rfl)
  (pss_one (ps_expr (pe_bm PySem.F.plainAttrs_list PySem.F.slot_list_append PySem.F.type_list_append mt_append (pv 5) (pa_cons (pv 8) pa_nil))))) pss_nil))))
  (pss_one (ps_if (pt_cmpR op_gt (pe_callB call_lenD (by rfl) T.n_len PySem.boot_len (pa_cons (pv 4) pa_nil)) (pv 3) (nomark _)) (pss_one (ps_raise rfl (takes_of rfl rfl rfl rfl) (SkE.pmk_own1 PySem.F.excBase_ValueError T.x_TooLarge.x T.x_TooLarge.g T.x_TooLarge.k (raises_own T.x_TooLarge.b T.x_TooLarge.t) rfl (pe_joined (PJ.cons pe_str (PJ.cons (pe_fmt (pv 3)) (PJ.cons pe_str PJ.nil))))))) pss_nil)))))
  (pss_one (ps_ret (pe_callTy (call_list_dK rfl) (by rfl) T.n_list (by decide +kernel) (pa_cons (pv 4) pa_nil))))))), ?_⟩
    simp only [tSeq, tIfS, tOr, tAnd, tB, tTest, tCB, tCons, tVar, tC, tNil, tNot, tNotV, tRet, tRetN, tNext, tBreak, tOrV, tAndV, tOp, tUn, rEq, rNe, tChain, rI0, rI, rU, tAsg, gName, tDrop, tAug, ipI, tIf, tCall, tCallS, tLst, tTup, tBM, tBM0, rAppend, rExtend, rPop, rReverse, tyV, rIxL, rIxT, rIxS, rIsB, rNotB, L2.start, List.map_cons, List.map_nil, List.length_cons, List.length_nil, List.replicate, List.cons_append, List.nil_append, List.append_nil, List.getElem?_cons_zero, List.getElem?_cons_succ, List.set_cons_zero, List.set_cons_succ, Nat.reduceAdd, Nat.reduceSub, Option.some.injEq, exists_eq_left', exists_eq_left, V.int.injEq, V.bl.injEq, V.str.injEq, V.ref.injEq, List.cons.injEq, and_true, true_and, and_assoc, reduceCtorEq, false_and, exists_false, or_false, false_or, exists_and_left, exists_const, scal, Int.reduceLT, Int.reduceLE, Int.reduceSub, Int.reduceAdd, Int.reduceNeg, if_true, if_false, tMeth, tDisp]
    refine fun D2 hD2 => ?_
    simp only [tSeq, tIfS, tOr, tAnd, tB, tTest, tCB, tCons, tVar, tC, tNil, tNot, tNotV, tRet, tRetN, tNext, tBreak, tOrV, tAndV, tOp, tUn, rEq, rNe, tChain, rI0, rI, rU, tAsg, gName, tDrop, tAug, ipI, tIf, tCall, tCallS, tLst, tTup, tBM, tBM0, rAppend, rExtend, rPop, rReverse, tyV, rIxL, rIxT, rIxS, rIsB, rNotB, L2.start, List.map_cons, List.map_nil, List.length_cons, List.length_nil, List.replicate, List.cons_append, List.nil_append, List.append_nil, List.getElem?_cons_zero, List.getElem?_cons_succ, List.set_cons_zero, List.set_cons_succ, Nat.reduceAdd, Nat.reduceSub, Option.some.injEq, exists_eq_left', exists_eq_left, V.int.injEq, V.bl.injEq, V.str.injEq, V.ref.injEq, List.cons.injEq, and_true, true_and, and_assoc, reduceCtorEq, false_and, exists_false, or_false, false_or, exists_and_left, exists_const, scal, Int.reduceLT, Int.reduceLE, Int.reduceSub, Int.reduceAdd, Int.reduceNeg, if_true, if_false, tPairs]
    have hx := F.ha
    have hy := F.hb
    have hz := F.hc
    have nD2 := F.ned hD2
    have nDD2 : D ≠ D2 := fun z => by rw [z, hD2] at eD0; cases eD0
    have F3 : FlAt K cx.Floor (upd (upd H D2 (.dK [])) D2 (.dK (mergeK [] [(keyW t0, V.bl true)]))) f o d a b c := (F.same (FK.same_new (o := HO.dK []) hD2)).frX upd_same nD2 (fun _ h => nomatch h) (fun _ _ h => nomatch h) (fun _ _ _ h => nomatch h) (fun b' u' e' hb => by rw [upd_ne hb]; exact e')
    have b3 : FK.But d H (upd (upd H D2 (.dK [])) D2 (.dK (mergeK [] [(keyW t0, V.bl true)]))) := fun x v h1 e => by
      rw [upd_ne (fun z => by rw [z, hD2] at e; cases e), upd_ne (fun z => by rw [z, hD2] at e; cases e)]
      exact e
    refine ⟨upd_same, [(keyW t0, V.bl true)], rfl, by show 1 ≤ 15; decide, by decide, fun Qa hQa => ?_⟩
    have nQd := F3.ned hQa
    have hQH : H Qa = none := by
      cases e : H Qa with
      | none => rfl
      | some v => rw [b3 Qa v nQd e] at hQa; cases hQa
    have eD3 := b3 _ _ nDd eD0
    have nDQ : D ≠ Qa := fun z => by rw [z, hQa] at eD3; cases eD3
    have nD2Q : D2 ≠ Qa := fun z => by rw [← z, upd_same] at hQa; cases hQa
    have hm2 : most ≤ 200 := by omega
    refine rd_while (fun m σ H' => ∃ (rs qs : List W) (v6 v7 v8 : Option V), σ = [some (.ref f), some (.str (wS (t0))), some (.ref D), some (.int (most : Nat)), some (.ref D2), some (.ref Qa), v6, v7, v8] ∧ WInv (nfw a b c) (fun y => y ∈ ws) t0 (fun _ => False) rs qs ∧ rs.length ≤ most ∧ (2 * (most - rs.length) + qs.length ≤ m ∧ m ≤ 2 * most) ∧ H' D = some (.dK (encW ws)) ∧ H' D2 = some (.dK (encW rs)) ∧ H' Qa = some (.lst ((qs.map wS).map V.str)) ∧ FlAt K cx.Floor H' f o d a b c ∧ FK.But d H H') (2 * most)
      ⟨[t0], [t0], none, none, none, rfl, ⟨List.pairwise_singleton _ _, fun r hr => by rw [List.mem_singleton.mp hr]; exact .refl, List.mem_singleton.mpr rfl, fun r hr => hr, fun r hr => by rw [List.mem_singleton.mp hr]; exact Nat.le_refl _, fun r hr => .inl hr⟩, by rw [List.length_singleton]; omega, ?_, FK.same_new hQa _ _ eD3, FK.same_new hQa _ _ upd_same, upd_same, F3.same (FK.same_new hQa), fun x v h1 e => FK.same_new hQa _ _ (b3 x v h1 e)⟩ ?_ (fun σ H Q Q' hQ h => by
        simp only [tSeq, tIfS, tOr, tAnd, tB, tTest, tCB, tCons, tVar, tC, tNil, tNot, tNotV, tRet, tRetN, tNext, tBreak, tOrV, tAndV, tOp, tUn, rEq, rNe, tChain, rI0, rI, rU, tAsg, gName, tDrop, tAug, ipI, tIf, tCall, tCallS, tLst, tTup, tBM, tBM0, rAppend, rExtend, rPop, rReverse, tyV, rIxL, rIxT, rIxS, rIsB, rNotB, L2.start, List.map_cons, List.map_nil, List.length_cons, List.length_nil, List.replicate, List.cons_append, List.nil_append, List.append_nil, List.getElem?_cons_zero, List.getElem?_cons_succ, List.set_cons_zero, List.set_cons_succ, Nat.reduceAdd, Nat.reduceSub, Option.some.injEq, exists_eq_left', exists_eq_left, V.int.injEq, V.bl.injEq, V.str.injEq, V.ref.injEq, List.cons.injEq, and_true, true_and, and_assoc, reduceCtorEq, false_and, exists_false, or_false, false_or, exists_and_left, exists_const, scal, Int.reduceLT, Int.reduceLE, Int.reduceSub, Int.reduceAdd, Int.reduceNeg, if_true, if_false] at h ⊢
        obtain ⟨v, a1, a2, a3⟩ := h
        refine ⟨v, a1, a2, fun p hp => ?_⟩
        obtain ⟨d1, d2, c1, c2, c3, c4, k, c5, c6⟩ := a3 p hp
        exact ⟨d1, d2, c1, c2, c3, c4, k, c5, hQ _ _ c6⟩)
    · simp only [List.length_singleton]
      exact ⟨by omega, Nat.le_refl _⟩
    rintro m σ H4 ⟨rs, qs, v6, v7, v8, rfl, ji, lrs, ⟨lm, mm⟩, eD4, eD24, eQ4, F4, b4⟩
    simp only [tSeq, tIfS, tOr, tAnd, tB, tTest, tCB, tCons, tVar, tC, tNil, tNot, tNotV, tRet, tRetN, tNext, tBreak, tOrV, tAndV, tOp, tUn, rEq, rNe, tChain, rI0, rI, rU, tAsg, gName, tDrop, tAug, ipI, tIf, tCall, tCallS, tLst, tTup, tBM, tBM0, rAppend, rExtend, rPop, rReverse, tyV, rIxL, rIxT, rIxS, rIsB, rNotB, L2.start, List.map_cons, List.map_nil, List.length_cons, List.length_nil, List.replicate, List.cons_append, List.nil_append, List.append_nil, List.getElem?_cons_zero, List.getElem?_cons_succ, List.set_cons_zero, List.set_cons_succ, Nat.reduceAdd, Nat.reduceSub, Option.some.injEq, exists_eq_left', exists_eq_left, V.int.injEq, V.bl.injEq, V.str.injEq, V.ref.injEq, List.cons.injEq, and_true, true_and, and_assoc, reduceCtorEq, false_and, exists_false, or_false, false_or, exists_and_left, exists_const, scal, Int.reduceLT, Int.reduceLE, Int.reduceSub, Int.reduceAdd, Int.reduceNeg, if_true, if_false]
    refine ⟨Nat.zero_le _, fun p1 hp1 => neD_words (us := qs) (vs := []) (SqL.of (FK.same_new hp1 _ _ eQ4)) (SqL.of upd_same) ⟨_, rfl, ?_⟩⟩
    have F5 := F4.same (FK.same_new (o := HO.lst []) hp1)
    have b5 : FK.But d H (upd H4 p1 (.lst [])) := fun b' u' hb e' => FK.same_new hp1 _ _ (b4 b' u' hb e')
    have eD5 := FK.same_new (o := HO.lst []) hp1 _ _ eD4
    have eD25 := FK.same_new (o := HO.lst []) hp1 _ _ eD24
    have eQ5 := FK.same_new (o := HO.lst []) hp1 _ _ eQ4
    generalize upd H4 p1 (.lst []) = H5 at *
    by_cases hq : qs = []
    · subst hq
      refine iteF' (by simp) ?_
      refine ⟨D2, _, rfl, eD25, fun p hp => ?_⟩
      have ew : ((encW rs).map fun kv => kV kv.1) = (rs.map wS).map V.str := by
        unfold encW
        rw [List.map_map, List.map_map]
        rfl
      rw [ew]
      have hpH : H p = none := by
        have n1 := F5.ned hp
        cases e : H p with
        | none => rfl
        | some v => rw [b5 p v n1 e] at hp; cases hp
      exact q rs p _ ji.nd ji.done lrs (fun r hr => by have := ji.len r hr; omega) hpH upd_same (F5.same (FK.same_new hp)) fun x v h1 e => FK.same_new hp _ _ (b5 x v h1 e)
    · obtain ⟨qs', t, rfl⟩ : ∃ qs' t, qs = qs' ++ [t] := ⟨qs.dropLast, qs.getLast hq, (List.dropLast_concat_getLast hq).symm⟩
      refine iteT' (by simp) ?_
      have htr : t ∈ rs := ji.qsub t (List.mem_append_right _ (List.mem_singleton.mpr rfl))
      have lt := ji.len t htr
      have lmap : (((qs' ++ [t]).map wS).map V.str) = ((qs'.map wS).map V.str) ++ [V.str (wS t)] := by rw [List.map_append, List.map_append]; rfl
      have lm2 : 2 * (most - rs.length) + qs'.length + 1 ≤ m := by
        rw [List.length_append, List.length_singleton] at lm
        omega
      refine ⟨.inl ⟨_, SqL.of eQ5⟩, _, eQ5, V.str (wS t), ?_, ?_⟩
      · rw [lmap, List.length_append, List.length_singleton, Nat.add_sub_cancel, List.getElem?_append_right (Nat.le_refl _), Nat.sub_self]
        rfl
      rw [lmap, List.dropLast_concat]
      have ji1 : WInv (nfw a b c) (fun y => y ∈ ws) t0 (fun r => r = t) rs qs' := ⟨ji.nd, ji.rch, ji.h0, fun r hr => ji.qsub r (List.mem_append_left _ hr), ji.len, fun r hr => by
        rcases ji.cl r hr with c1 | c1 | c1
        · rcases List.mem_append.mp c1 with c2 | c2
          · exact .inl c2
          · exact .inr (.inl (List.mem_singleton.mp c2))
        · exact c1.elim
        · exact .inr (.inr c1)⟩
      have F6 : FlAt K cx.Floor (upd H5 Qa (.lst ((qs'.map wS).map V.str))) f o d a b c := F5.frX eQ5 nQd (fun _ h => nomatch h) (fun _ _ h => nomatch h) (fun _ _ _ h => nomatch h) (fun b' u' e' hb => by rw [upd_ne hb]; exact e')
      have b6 : FK.But d H (upd H5 Qa (.lst ((qs'.map wS).map V.str))) := fun x v h1 e => by
        rw [upd_ne (fun z => by rw [z, hQH] at e; cases e)]
        exact b5 x v h1 e
      refine FK.rd_for (J := Its "012") (fun R r => by first | exact r | exact ⟨_, rfl, r⟩) (show Walk (Its "012") 3 _ _ from (show ("012" : Str).cps.size = 3 by decide +kernel) ▸ walk_str (z := "012"))
        (fun k σ H' => ∃ (rs qs : List W) (v7 v8 : Option V), σ = [some (.ref f), some (.str (wS (t0))), some (.ref D), some (.int (most : Nat)), some (.ref D2), some (.ref Qa), some (.str (wS (t))), v7, v8] ∧ WInv (nfw a b c) (fun y => y ∈ ws) t0 (fun r => r = t) rs qs ∧ t ∈ rs ∧ rs.length ≤ most + k ∧ (∀ l : Fin 3, l.1 < k → nfw a b c (t ++ [l] ++ t.reverse) ∈ ws → nfw a b c (t ++ [l]) ∈ rs) ∧ (2 * (most + 3 - rs.length) + qs.length + 1 ≤ m + 6 ∧ m ≤ 2 * most) ∧ H' D = some (.dK (encW ws)) ∧ H' D2 = some (.dK (encW rs)) ∧ H' Qa = some (.lst ((qs.map wS).map V.str)) ∧ FlAt K cx.Floor H' f o d a b c ∧ FK.But d H H')
        ⟨rs, qs', v7, v8, rfl, ji1, htr, by omega, fun l h => absurd h (Nat.not_lt_zero _), ⟨by omega, mm⟩, by rw [upd_ne nDQ]; exact eD5, by rw [upd_ne nD2Q]; exact eD25, upd_same, F6, b6⟩ (fun _ _ _ _ _ => trivial) ?_ ?_
      · rintro k x' σ Ha Hb hkk ⟨rs, qs, v7, v8, rfl, jj, htr, lrk, hcl, ⟨lm, mm⟩, eDa, eD2a, eQa, Fa, ba⟩ ⟨rfl, ch, hch, rfl⟩
        obtain ⟨l, hl, el⟩ : ∃ l : Fin 3, l.1 = k ∧ (⟨#[ch]⟩ : Str) = wS [l] := by
          match k, hch with
          | 0, hch => cases hch; exact ⟨0, rfl, rfl⟩
          | 1, hch => cases hch; exact ⟨1, rfl, rfl⟩
          | 2, hch => cases hch; exact ⟨2, rfl, rfl⟩
          | _ + 3, _ => omega
        rw [el]
        have hold : ∀ l' : Fin 3, l'.1 < k + 1 → l'.1 < k ∨ l' = l := fun l' h => by
          rcases Nat.lt_or_ge l'.1 k with c1 | c1
          · exact .inl c1
          · exact .inr (Fin.ext (by omega))
        have ltl : (t ++ [l]).length ≤ 251 := by rw [List.length_append, List.length_singleton]; omega
        have lnl : (nfw a b c (t ++ [l])).length ≤ t.length + 1 := by
          have h1 := (nfw_ok hx hy hz (w := t ++ [l]) (by omega)).2.2.1
          have h2 := ln_self (m := om a b c) (t ++ [l])
          rw [List.length_append, List.length_singleton] at h2
          omega
        simp only [tSeq, tIfS, tOr, tAnd, tB, tTest, tCB, tCons, tVar, tC, tNil, tNot, tNotV, tRet, tRetN, tNext, tBreak, tOrV, tAndV, tOp, tUn, rEq, rNe, tChain, rI0, rI, rU, tAsg, gName, tDrop, tAug, ipI, tIf, tCall, tCallS, tLst, tTup, tBM, tBM0, rAppend, rExtend, rPop, rReverse, tyV, rIxL, rIxT, rIxS, rIsB, rNotB, L2.start, List.map_cons, List.map_nil, List.length_cons, List.length_nil, List.replicate, List.cons_append, List.nil_append, List.append_nil, List.getElem?_cons_zero, List.getElem?_cons_succ, List.set_cons_zero, List.set_cons_succ, Nat.reduceAdd, Nat.reduceSub, Option.some.injEq, exists_eq_left', exists_eq_left, V.int.injEq, V.bl.injEq, V.str.injEq, V.ref.injEq, List.cons.injEq, and_true, true_and, and_assoc, reduceCtorEq, false_and, exists_false, or_false, false_or, exists_and_left, exists_const, scal, Int.reduceLT, Int.reduceLE, Int.reduceSub, Int.reduceAdd, Int.reduceNeg, if_true, if_false, tMeth, sDPut, tDIn, tDNotIn]
        obtain ⟨dx, e7⟩ := Fa.ob
        refine ⟨dx, _, e7, fldsF_no _ _ (by decide +kernel) (by decide +kernel), by rw [wS_len, wS_len]; exact zl _ (by rw [List.length_singleton]; omega), f, o, d, a, b, c, t ++ [l], by rw [wS_app], Fa, by omega, fun H8 F8 b8 => ?_⟩
        have eD8 := b8 _ _ nDd eDa
        have eD28 := b8 _ _ nD2 eD2a
        have eQ8 := b8 _ _ nQd eQa
        have bb := ba.trans b8
        have nsz : (encW rs).length < sizeLine := by
          unfold encW
          rw [List.length_map]
          exact Nat.lt_of_le_of_lt (show rs.length ≤ 300 by omega) (by decide)
        refine ⟨_, DGet.k (k := keyW (nfw a b c (t ++ [l]))) eD28, ?_⟩
        rw [val_encW]
        by_cases hr : nfw a b c (t ++ [l]) ∈ rs
        · rw [if_pos hr, if_neg (by simp)]
          refine ⟨rs, qs, jj, htr, by omega, fun l' h1 h2 => ?_, lm, mm, eD8, eD28, eQ8, F8, bb⟩
          rcases hold l' h1 with c1 | c1
          · exact hcl l' c1 h2
          · rw [c1]; exact hr
        · rw [if_neg hr, if_pos (by simp)]
          refine ⟨f, o, d, a, b, c, t, l, rfl, F8, by omega, fun H9 F9 b9 => ?_⟩
          have eD9 := b9 _ _ nDd eD8
          have eD29 := b9 _ _ nD2 eD28
          have eQ9 := b9 _ _ nQd eQ8
          have b10 := bb.trans b9
          refine ⟨_, DGet.k (k := keyW (nfw a b c (t ++ [l] ++ t.reverse))) eD9, ?_⟩
          rw [val_encW]
          by_cases hw : nfw a b c (t ++ [l] ++ t.reverse) ∈ ws
          · rw [if_pos hw, if_pos (by simp)]
            have j2 := jj.add htr hw lnl hr
            have eput : putK (encW rs) (keyW (nfw a b c (t ++ [l]))) (V.bl true) = encW (rs ++ [nfw a b c (t ++ [l])]) := by
              rw [put_encW]
              unfold FK.addS
              rw [if_neg hr]
            refine ⟨_, DPut.k (k := keyW (nfw a b c (t ++ [l]))) eD29 nsz, ?_⟩
            rw [eput]
            have eQ10 : upd H9 D2 (.dK (encW (rs ++ [nfw a b c (t ++ [l])]))) Qa = some (.lst ((qs.map wS).map V.str)) := by rw [upd_ne nD2Q.symm]; exact eQ9
            have F10 : FlAt K cx.Floor (upd H9 D2 (.dK (encW (rs ++ [nfw a b c (t ++ [l])])))) f o d a b c := F9.frX eD29 nD2 (fun _ h => nomatch h) (fun _ _ h => nomatch h) (fun _ _ _ h => nomatch h) (fun b' u' e' hb => by rw [upd_ne hb]; exact e')
            refine ⟨.inl ⟨_, SqL.of eQ10⟩, _, eQ10, ?_, rs ++ [nfw a b c (t ++ [l])], qs ++ [nfw a b c (t ++ [l])], j2, List.mem_append_left _ htr, ?_, fun l' h1 h2 => ?_, ?_, mm, ?_, ?_, ?_, ?_, ?_⟩
            · rw [List.length_map, List.length_map]
              exact Nat.lt_of_le_of_lt (show qs.length ≤ 1000 by omega) (by decide)
            · rw [List.length_append, List.length_singleton]
              omega
            · rcases hold l' h1 with c1 | c1
              · exact List.mem_append_left _ (hcl l' c1 h2)
              · rw [c1]; exact List.mem_append_right _ (List.mem_singleton.mpr rfl)
            · simp only [List.length_append, List.length_singleton]
              omega
            · rw [upd_ne nDQ, upd_ne nDD2]
              exact eD9
            · rw [upd_ne nD2Q, upd_same]
            · rw [upd_same, List.map_append, List.map_append]
              rfl
            · exact F10.frX eQ10 nQd (fun _ h => nomatch h) (fun _ _ h => nomatch h) (fun _ _ _ h => nomatch h) (fun b' u' e' hb => by rw [upd_ne hb]; exact e')
            · intro x' v' h1 e'
              rw [upd_ne (fun z => by rw [z, hQH] at e'; cases e'), upd_ne (fun z => by rw [z, hD2] at e'; cases e')]
              exact b10 _ _ h1 e'
          · rw [if_neg hw, if_neg (by simp)]
            refine ⟨rs, qs, jj, htr, by omega, fun l' h1 h2 => ?_, lm, mm, eD9, eD29, eQ9, F9, b10⟩
            rcases hold l' h1 with c1 | c1
            · exact hcl l' c1 h2
            · rw [c1] at h2; exact absurd h2 hw
      · rintro σ Ha ⟨rs, qs, v7, v8, rfl, jj, htr, lrk, hcl, ⟨lm, mm⟩, eDa, eD2a, eQa, Fa, ba⟩
        simp only [tSeq, tIfS, tOr, tAnd, tB, tTest, tCB, tCons, tVar, tC, tNil, tNot, tNotV, tRet, tRetN, tNext, tBreak, tOrV, tAndV, tOp, tUn, rEq, rNe, tChain, rI0, rI, rU, tAsg, gName, tDrop, tAug, ipI, tIf, tCall, tCallS, tLst, tTup, tBM, tBM0, rAppend, rExtend, rPop, rReverse, tyV, rIxL, rIxT, rIxS, rIsB, rNotB, L2.start, List.map_cons, List.map_nil, List.length_cons, List.length_nil, List.replicate, List.cons_append, List.nil_append, List.append_nil, List.getElem?_cons_zero, List.getElem?_cons_succ, List.set_cons_zero, List.set_cons_succ, Nat.reduceAdd, Nat.reduceSub, Option.some.injEq, exists_eq_left', exists_eq_left, V.int.injEq, V.bl.injEq, V.str.injEq, V.ref.injEq, List.cons.injEq, and_true, true_and, and_assoc, reduceCtorEq, false_and, exists_false, or_false, false_or, exists_and_left, exists_const, scal, Int.reduceLT, Int.reduceLE, Int.reduceSub, Int.reduceAdd, Int.reduceNeg, if_true, if_false, tJs, tFmt, tC]
        refine ⟨_, eD2a, ?_⟩
        have len : (encW rs).length = rs.length := by unfold encW; rw [List.length_map]
        rw [len]
        refine ite2 (fun c1 => ?_) (fun c1 => ?_)
        · have c1 : (most : Int) < (rs.length : Int) := of_decide_eq_true c1
          have e := qE rs jj.nd jj.rch (by omega) Ha ba
          rcases hm with rfl | rfl
          · exact ⟨by decide +kernel, by decide +kernel, by decide +kernel, by decide +kernel, e⟩
          · exact ⟨by decide +kernel, by decide +kernel, by decide +kernel, by decide +kernel, e⟩
        · have c1 : ¬ (most : Int) < (rs.length : Int) := fun z => c1 (decide_eq_true z)
          refine ⟨2 * (most - rs.length) + qs.length, by omega, rs, qs, ⟨jj.nd, jj.rch, jj.h0, jj.qsub, jj.len, fun r hr => ?_⟩, by omega, Nat.le_refl _, by omega, eDa, eD2a, eQa, Fa, ba⟩
          rcases jj.cl r hr with c1 | c1 | c1
          · exact .inl c1
          · exact .inr (.inr fun l hl => by rw [c1] at hl ⊢; exact hcl l l.2 hl)
          · exact .inr (.inr c1)


end
end K32

namespace K32
open PySem PySem.Spec PyProof.Rows L2 Cox
section
variable {P : Program} {w : World} {K : PySem.W.Frag} {mg : Str → Option Value} {base : Heap} {cx : Xs}
/-- the walls that part some two of some tiles -/
def pwl (a b c : Nat) (u0 u : W) : List W := wls (nfw a b c) (nfw a b c u0) (nfw a b c ((nfw a b c u0).reverse ++ u)) (nfw a b c ((nfw a b c u0).reverse ++ u)).length
/-- the hull of tiles -/
def HullC (a b c : Nat) (us : List W) (u0 : W) : W → Prop := Wk (nfw a b c) (fun y => ∃ u ∈ us, y ∈ pwl a b c u0 u) (nfw a b c u0)
def spHW (K : PySem.W.Frag) (CA CT : Addr) : Sp := fun vs H Q E => ∃ (o l : Addr) (a b c most : Nat) (us : List W), vs = [.ref o, .ref l, .int (most : Nat)] ∧ Og K H o a b c ∧ H l = some (.lst ((us.map wS).map V.str)) ∧ (∀ u ∈ us, u.length ≤ 60) ∧ (most = 200 ∨ most = 60) ∧
  (us = [] → ∀ H', Same H H' → E (.ref CA) none H') ∧ (us ≠ [] → 60 < us.length → ∀ H', Same H H' → E (.ref CT) none H') ∧
  (us.length ≤ 60 → ∀ u0, us[0]? = some u0 → (nfw a b c u0).length ≤ 50 ∧
    (∀ rs : List W, rs.Nodup → (∀ r ∈ rs, HullC a b c us u0 r) → most < rs.length → ∀ H', Same H H' → E (.ref CT) none H') ∧
    (∀ (rs : List W) L H', rs.Nodup → (∀ y, y ∈ rs ↔ HullC a b c us u0 y) → rs.length ≤ most → (∀ r ∈ rs, r.length ≤ 300) → H L = none → H' L = some (.lst ((rs.map wS).map V.str)) → Same H H' → Q (.ref L) H'))
theorem ok_hull_within (T : Txt K mg cx) : FK.Has P w K mg base (L2.CX P w) 9 "hull_within" ["orders", "words", "most"] (spHW K cx.NoAnswer cx.TooLarge) := by
  have H_check_given := ok_check_given (P := P) (w := w) (base := base) T
  have H_Floor_init := ok_Floor_init (P := P) (w := w) (mg := mg) (base := base) T
  have H_Floor_normal := ok_Floor_normal (P := P) (w := w) (mg := mg) (base := base) T
  have H_walls_parting := ok_walls_parting (P := P) (w := w) (base := base) T
  have H_tiles_within := ok_tiles_within (P := P) (w := w) (base := base) T
  refine T.d_hull_within.okX sc_hull_within (fun vs H Q E h => ?_) (fun f cdv A outer s H vs Q E hr h => ?_)
  · obtain ⟨o, l, a, b, c, most, us, rfl, _⟩ := h
    rfl
  · obtain ⟨o, l, a, b, c, most, us, rfl, G, hL, hus, hm, qA, qT, q⟩ := h
    refine ⟨_, (pss_cons (ps_expr (FK.pe_h (E := E) H_check_given (hr.mono (by decide)) (passes_call (takes_of rfl rfl rfl rfl) (fun _ _ _ _ h => h)) (pa_cons (pv 0) (pa_cons (pv 1) pa_nil))))
  (pss_cons (ps_set (i := 3) sc_hull_within.nd rfl (Or.inl rfl) (by exact (FK.pe_i (E := E0) H_Floor_init (hr.mono (by decide)) T.g_Floor pass0 (pa_cons (pv 0) pa_nil))))
  (pss_one (ps_ret (FK.pe_h (E := E) H_tiles_within (hr.mono (by decide)) (passes_call (takes_of rfl rfl rfl rfl) (fun _ _ _ _ h => h)) (pa_cons (pv 3) (pa_cons (FK.pe_m (E := E0) (pv 3) T.cl_Floor H_Floor_normal (hr.mono (by decide)) pass0 (pa_cons (pe_ix (r := rIxL K) ix_list (pv 1) pe_int (fun _ _ => rfl)) pa_nil)) (pa_cons (FK.pe_h (E := E0) H_walls_parting (hr.mono (by decide)) pass0 (pa_cons (pv 3) (pa_cons (pv 1) pa_nil))) (pa_cons (pv 2) pa_nil))))))))), ?_⟩
    simp only [tSeq, tIfS, tOr, tAnd, tB, tTest, tCB, tCons, tVar, tC, tNil, tNot, tNotV, tRet, tRetN, tNext, tBreak, tOrV, tAndV, tOp, tUn, rEq, rNe, tChain, rI0, rI, rU, tAsg, gName, tDrop, tAug, ipI, tIf, tCall, tCallS, tLst, tTup, tBM, tBM0, rAppend, rExtend, rPop, rReverse, tyV, rIxL, rIxT, rIxS, rIsB, rNotB, L2.start, List.map_cons, List.map_nil, List.length_cons, List.length_nil, List.replicate, List.cons_append, List.nil_append, List.append_nil, List.getElem?_cons_zero, List.getElem?_cons_succ, List.set_cons_zero, List.set_cons_succ, Nat.reduceAdd, Nat.reduceSub, Option.some.injEq, exists_eq_left', exists_eq_left, V.int.injEq, V.bl.injEq, V.str.injEq, V.ref.injEq, List.cons.injEq, and_true, true_and, and_assoc, reduceCtorEq, false_and, exists_false, or_false, false_or, exists_and_left, exists_const, scal, Int.reduceLT, Int.reduceLE, Int.reduceSub, Int.reduceAdd, Int.reduceNeg, if_true, if_false, tMake]
    refine ⟨o, l, [(a : Int), (b : Int), (c : Int)], us.map wS, rfl, SqT.of G.ob, hL, fun t ht => ?_, (fun h => by rw [G.ok] at h; cases h), (fun _ h => by rw [all_wS hus] at h; cases h), fun _ _ => ⟨fun h => qA (List.map_eq_nil_iff.mp h), fun h1 h2 => qT (fun z => h1 (by rw [z]; rfl)) (by rw [List.length_map] at h2; exact h2), fun ne le H1 s1 => ?_⟩⟩
    · obtain ⟨u, hu', rfl⟩ := List.mem_map.mp ht
      exact szw (by have := hus u hu'; omega)
    rw [List.length_map] at le
    obtain ⟨u0, h0⟩ : ∃ u0, us[0]? = some u0 := by
      cases us with
      | nil => exact absurd rfl ne
      | cons u us => exact ⟨u, rfl⟩
    obtain ⟨l50, qE, q3⟩ := q le u0 h0
    have lu0 := hus u0 (List.mem_of_getElem? h0)
    have G1 := G.same s1
    refine fun f dx hf hdx ne => ⟨f, o, dx, rfl, upd_same, fun d H4 hd e1 e2 kp => ⟨rfl, ?_⟩⟩
    obtain ⟨F, s4, hd2⟩ := floor_new (SqT.of G1.ob) G.ha G.hb G.hc hf hdx hd e1 e2 kp
    have s14 := s1.trans s4
    simp only [tSeq, tIfS, tOr, tAnd, tB, tTest, tCB, tCons, tVar, tC, tNil, tNot, tNotV, tRet, tRetN, tNext, tBreak, tOrV, tAndV, tOp, tUn, rEq, rNe, tChain, rI0, rI, rU, tAsg, gName, tDrop, tAug, ipI, tIf, tCall, tCallS, tLst, tTup, tBM, tBM0, rAppend, rExtend, rPop, rReverse, tyV, rIxL, rIxT, rIxS, rIsB, rNotB, L2.start, List.map_cons, List.map_nil, List.length_cons, List.length_nil, List.replicate, List.cons_append, List.nil_append, List.append_nil, List.getElem?_cons_zero, List.getElem?_cons_succ, List.set_cons_zero, List.set_cons_succ, Nat.reduceAdd, Nat.reduceSub, Option.some.injEq, exists_eq_left', exists_eq_left, V.int.injEq, V.bl.injEq, V.str.injEq, V.ref.injEq, List.cons.injEq, and_true, true_and, and_assoc, reduceCtorEq, false_and, exists_false, or_false, false_or, exists_and_left, exists_const, scal, Int.reduceLT, Int.reduceLE, Int.reduceSub, Int.reduceAdd, Int.reduceNeg, if_true, if_false, tMeth]
    obtain ⟨dx7, e7⟩ := F.ob
    refine ⟨dx7, _, e7, fldsF_no _ _ (by decide +kernel) (by decide +kernel), _, SqL.of (s14 _ _ hL), _, atI_nat (j := 0) (by rw [List.getElem?_map, List.getElem?_map, h0]; rfl), f, o, d, a, b, c, u0, rfl, F, by omega, fun H5 F5 b5 => ?_⟩
    have s5 := s1.trans (but_same s4 hd2 b5)
    refine ⟨f, o, d, l, a, b, c, us, u0, rfl, F5, s5 _ _ hL, h0, le, hus, fun ws D H6 nd lw hm2 hD eD F6 b6 => ?_⟩
    have b56 := b5.trans b6
    have hD2 : H6 D = some (.dK (encW ws)) := eD
    have eqv : ∀ y, Wk (nfw a b c) (fun y => y ∈ ws) (nfw a b c u0) y ↔ HullC a b c us u0 y := fun y => ⟨fun h => h.mono fun z hz => (hm2 z).mp hz, fun h => h.mono fun z hz => (hm2 z).mpr hz⟩
    have hD4 : H4 D = none := by
      have n1 := F5.ned hD
      cases e : H4 D with
      | none => rfl
      | some v => rw [b5 D v n1 e] at hD; cases hD
    refine ⟨f, o, d, D, a, b, c, most, nfw a b c u0, ws, rfl, F6, eD, F5.ned hD, l50, hm, fun rs nd hr hl H7 b7 => ?_, fun rs L H7 nd hr hl hl3 hL7 eL F7 b7 => ?_⟩
    · exact qE rs nd (fun r h => (eqv r).mp (hr r h)) hl H7 (s1.trans (but_same s4 hd2 (b56.trans b7)))
    · refine q3 rs L H7 nd (fun y => by rw [hr y, eqv y]) hl hl3 ?_ eL (s1.trans (but_same s4 hd2 (b56.trans b7)))
      exact back (s1.trans (but_same s4 hd2 b56)) hL7
/-- hull: in order -/
def spHull (K : PySem.W.Frag) (CA CT : Addr) : Sp := fun vs H Q E => ∃ (o l : Addr) (a b c : Nat) (us : List W), vs = [.ref o, .ref l] ∧ Og K H o a b c ∧ H l = some (.lst ((us.map wS).map V.str)) ∧ (∀ u ∈ us, u.length ≤ 60) ∧
  (us = [] → ∀ H', Same H H' → E (.ref CA) none H') ∧ (us ≠ [] → 60 < us.length → ∀ H', Same H H' → E (.ref CT) none H') ∧
  (us.length ≤ 60 → ∀ u0, us[0]? = some u0 → (nfw a b c u0).length ≤ 50 ∧
    (∀ rs : List W, rs.Nodup → (∀ r ∈ rs, HullC a b c us u0 r) → 200 < rs.length → ∀ H', Same H H' → E (.ref CT) none H') ∧
    (∀ (ys : List W) L H', ys.Nodup → ys.Pairwise ole → (∀ y, y ∈ ys ↔ HullC a b c us u0 y) → ys.length ≤ 200 → H L = none → H' L = some (.lst ((ys.map wS).map V.str)) → Same H H' → Q (.ref L) H'))
theorem ok_hull (T : Txt K mg cx) : FK.Has P w K mg base (L2.CX P w) 10 "hull" ["orders", "words"] (spHull K cx.NoAnswer cx.TooLarge) := by
  have H_hull_within := ok_hull_within (P := P) (w := w) (base := base) T
  have H_in_order := ok_in_order (P := P) (w := w) (base := base) T
  refine T.d_hull.okX sc_hull (fun vs H Q E h => ?_) (fun f cdv A outer s H vs Q E hr h => ?_)
  · obtain ⟨o, l, a, b, c, us, rfl, _⟩ := h
    rfl
  · obtain ⟨o, l, a, b, c, us, rfl, G, hL, hus, qA, qT, q⟩ := h
    refine ⟨_, (pss_one (ps_ret (FK.pe_h (E := E0) H_in_order (hr.mono (by decide)) pass0 (pa_cons (FK.pe_h (E := E) H_hull_within (hr.mono (by decide)) (passes_call (takes_of rfl rfl rfl rfl) (fun _ _ _ _ h => h)) (pa_cons (pv 0) (pa_cons (pv 1) (pa_cons (pe_glob (v := .int 200) rfl T.c_MOST_HULL ⟨_, rfl⟩) pa_nil)))) pa_nil)))), ?_⟩
    simp only [tSeq, tIfS, tOr, tAnd, tB, tTest, tCB, tCons, tVar, tC, tNil, tNot, tNotV, tRet, tRetN, tNext, tBreak, tOrV, tAndV, tOp, tUn, rEq, rNe, tChain, rI0, rI, rU, tAsg, gName, tDrop, tAug, ipI, tIf, tCall, tCallS, tLst, tTup, tBM, tBM0, rAppend, rExtend, rPop, rReverse, tyV, rIxL, rIxT, rIxS, rIsB, rNotB, L2.start, List.map_cons, List.map_nil, List.length_cons, List.length_nil, List.replicate, List.cons_append, List.nil_append, List.append_nil, List.getElem?_cons_zero, List.getElem?_cons_succ, List.set_cons_zero, List.set_cons_succ, Nat.reduceAdd, Nat.reduceSub, Option.some.injEq, exists_eq_left', exists_eq_left, V.int.injEq, V.bl.injEq, V.str.injEq, V.ref.injEq, List.cons.injEq, and_true, true_and, and_assoc, reduceCtorEq, false_and, exists_false, or_false, false_or, exists_and_left, exists_const, scal, Int.reduceLT, Int.reduceLE, Int.reduceSub, Int.reduceAdd, Int.reduceNeg, if_true, if_false]
    refine ⟨o, l, a, b, c, 200, us, rfl, G, hL, hus, .inl rfl, qA, qT, fun le u0 h0 => ?_⟩
    obtain ⟨l50, qE, q3⟩ := q le u0 h0
    refine ⟨l50, qE, fun rs L H1 nd hr hl hl3 hLn eL s1 => ?_⟩
    refine ⟨L, rs, rfl, SqL.of eL, fun y hy => by have := hl3 y hy; omega, fun ys p H2 pm pw hp ep s2 => ?_⟩
    exact q3 ys p H2 (pm.nodup_iff.mpr nd) pw (fun y => by rw [pm.mem_iff, hr y]) (by rw [pm.length_eq]; exact hl) (back s1 hp) ep (s1.trans s2)
theorem mem_take_map {a b c : Nat} {us : List W} {i : Nat} {u : W} (hu : us[i]? = some u) {ds : List W} (hm : ∀ y, y ∈ ds ↔ ∃ u ∈ us.take i, nfw a b c u = y) (y : W) : y ∈ FK.addS ds (nfw a b c u) ↔ ∃ u ∈ us.take (i + 1), nfw a b c u = y := by
  rw [FK.mem_addS, hm y, List.take_add_one, hu]
  simp only [Option.toList_some, List.mem_append, List.mem_singleton]
  constructor
  · rintro (⟨s', h1, h2⟩ | h)
    · exact ⟨s', .inl h1, h2⟩
    · exact ⟨_, .inr rfl, h.symm⟩
  · rintro ⟨s', h1 | rfl, h2⟩
    · exact .inl ⟨s', h1, h2⟩
    · exact .inr h2.symm
def spConvex (K : PySem.W.Frag) (CA CT : Addr) : Sp := fun vs H Q E => ∃ (o l : Addr) (a b c : Nat) (us : List W), vs = [.ref o, .ref l] ∧ Og K H o a b c ∧ H l = some (.lst ((us.map wS).map V.str)) ∧ (∀ u ∈ us, u.length ≤ 60) ∧
  (us = [] → ∀ H', Same H H' → E (.ref CA) none H') ∧ (us ≠ [] → 60 < us.length → ∀ H', Same H H' → E (.ref CT) none H') ∧
  (us.length ≤ 60 → ∀ u0, us[0]? = some u0 → (nfw a b c u0).length ≤ 50 ∧
    (∀ rs : List W, rs.Nodup → (∀ r ∈ rs, HullC a b c us u0 r) → 200 < rs.length → ∀ H', Same H H' → E (.ref CT) none H') ∧
    (∀ (rs ds : List W) H', rs.Nodup → (∀ y, y ∈ rs ↔ HullC a b c us u0 y) → rs.length ≤ 200 → ds.Nodup → (∀ y, y ∈ ds ↔ ∃ u ∈ us, nfw a b c u = y) → Same H H' → Q (.bl (decide (ds.length = rs.length))) H'))
theorem ok_is_convex (T : Txt K mg cx) : FK.Has P w K mg base (L2.CX P w) 10 "is_convex" ["orders", "words"] (spConvex K cx.NoAnswer cx.TooLarge) := by
  have H_hull_within := ok_hull_within (P := P) (w := w) (base := base) T
  have H_Floor_init := ok_Floor_init (P := P) (w := w) (mg := mg) (base := base) T
  have H_Floor_normal := ok_Floor_normal (P := P) (w := w) (mg := mg) (base := base) T
  refine T.d_is_convex.okX sc_is_convex (fun vs H Q E h => ?_) (fun f' cdv A outer s H vs Q E hr h => ?_)
  · obtain ⟨o, l, a, b, c, us, rfl, _⟩ := h
    rfl
  · obtain ⟨o, l, a, b, c, us, rfl, G, hL, hus, qA, qT, q⟩ := h
    refine ⟨_, (pss_cons (ps_set (i := 2) sc_is_convex.nd rfl (Or.inl rfl) (by exact (FK.pe_h (E := E) H_hull_within (hr.mono (by decide)) (passes_call (takes_of rfl rfl rfl rfl) (fun _ _ _ _ h => h)) (pa_cons (pv 0) (pa_cons (pv 1) (pa_cons (pe_glob (v := .int 200) rfl T.c_MOST_HULL ⟨_, rfl⟩) pa_nil))))))
  (pss_cons (ps_set (i := 3) sc_is_convex.nd rfl (Or.inr rfl) (by exact (FK.pe_i (E := E0) H_Floor_init (hr.mono (by decide)) T.g_Floor pass0 (pa_cons (pv 0) pa_nil))))
  (pss_cons (FK.ps_setDc (i := 4) (own := [("word", 5)]) (g := gName 5) (tt := tYes) rfl sc_is_convex.nd rfl rfl (FK.sw_trueD rfl rfl rfl (by decide +kernel)) (pi_list (pv 1)) (blkOk_by (own := [("word", 5)]) (N := ["orders", "words", "tiles", "floor", "given", "word"]) (sc := defScope s_is_convex) (by decide +kernel)) (fun _ _ _ _ _ => (pg_name (i := 5) sc_is_convex.nd rfl (Or.inl rfl))) (fun _ _ _ _ _ => pts_nil) (fun _ _ _ _ _ => (FK.pe_m (E := E0) (pv 3) T.cl_Floor H_Floor_normal (hr.mono (by decide)) pass0 (pa_cons (pv 5) pa_nil))) (fun _ _ _ _ _ => pe_bl))
  (pss_one (ps_ret (pe_cmpR op_eq (pe_callB call_lenD (by rfl) T.n_len PySem.boot_len (pa_cons (pv 4) pa_nil)) (pe_callB call_len_seq (by rfl) T.n_len PySem.boot_len (pa_cons (pv 2) pa_nil)) (nomark _))))))), ?_⟩
    simp only [tSeq, tIfS, tOr, tAnd, tB, tTest, tCB, tCons, tVar, tC, tNil, tNot, tNotV, tRet, tRetN, tNext, tBreak, tOrV, tAndV, tOp, tUn, rEq, rNe, tChain, rI0, rI, rU, tAsg, gName, tDrop, tAug, ipI, tIf, tCall, tCallS, tLst, tTup, tBM, tBM0, rAppend, rExtend, rPop, rReverse, tyV, rIxL, rIxT, rIxS, rIsB, rNotB, L2.start, List.map_cons, List.map_nil, List.length_cons, List.length_nil, List.replicate, List.cons_append, List.nil_append, List.append_nil, List.getElem?_cons_zero, List.getElem?_cons_succ, List.set_cons_zero, List.set_cons_succ, Nat.reduceAdd, Nat.reduceSub, Option.some.injEq, exists_eq_left', exists_eq_left, V.int.injEq, V.bl.injEq, V.str.injEq, V.ref.injEq, List.cons.injEq, and_true, true_and, and_assoc, reduceCtorEq, false_and, exists_false, or_false, false_or, exists_and_left, exists_const, scal, Int.reduceLT, Int.reduceLE, Int.reduceSub, Int.reduceAdd, Int.reduceNeg, if_true, if_false, tMake]
    refine ⟨o, l, a, b, c, 200, us, rfl, G, hL, hus, .inl rfl, qA, qT, fun le u0 h0 => ?_⟩
    obtain ⟨l50, qE, q3⟩ := q le u0 h0
    refine ⟨l50, qE, fun rs L H1 nd hrs hl hl3 hLn eL s1 => ?_⟩
    have G1 := G.same s1
    refine fun f dx hf hdx ne => ⟨f, o, dx, rfl, upd_same, fun d H4 hd e1 e2' kp => ?_⟩
    obtain ⟨F, s4, hd2⟩ := floor_new (K := K) (SqT.of G1.ob) G.ha G.hb G.hc hf hdx hd e1 e2' kp
    refine ⟨rfl, ?_⟩
    have s04 := s1.trans s4
    have hl4 : SqL K H4 l ((us.map wS).map V.str) := SqL.of (s04 _ _ hL)
    refine ⟨_, rfl, l, rfl, ⟨_, hl4⟩, fun D hD => ?_⟩
    have hdD : D ≠ d := F.ned hD
    have hd2' : H d = none := back s1 hd2
    have hDH : H D = none := back s04 hD
    have nLD : L ≠ D := fun z => by
      have h := s4 _ _ eL
      rw [z, hD] at h
      cases h
    have nLd : L ≠ d := fun z => by rw [z, hd2] at eL; cases eL
    have ev : ((us.map wS).map V.str).length = us.length := by rw [List.length_map, List.length_map]
    refine FK.dc_it (walk_list (xs := (us.map wS).map V.str)) (fun i H' => ∃ ds : List W, H' D = some (.dK (encW ds)) ∧ ds.Nodup ∧ ds.length ≤ i ∧ FlAt K cx.Floor H' f o d a b c ∧ Same H H' ∧ H' L = some (.lst ((rs.map wS).map V.str)) ∧ ∀ y, y ∈ ds ↔ ∃ u ∈ us.take i, nfw a b c u = y)
      ⟨[], upd_same, List.Pairwise.nil, Nat.le_refl _, F.same (FK.same_new hD), s04.trans (FK.same_new hD), FK.same_new hD _ _ (s4 _ _ eL), fun y => by simp⟩ (fun i H' _ ⟨_, _, _, _, _, s', _⟩ => SqL.of (s' _ _ hL)) ?_ ?_
    · rintro i x' Ha Hb hi ⟨ds, eD, nd, ld, Fa, sa, eLa, hm⟩ ⟨rfl, hx'⟩
      rw [ev] at hi
      obtain ⟨u, hu⟩ : ∃ u, us[i]? = some u := ⟨_, List.getElem?_eq_getElem hi⟩
      rw [List.getElem?_map, List.getElem?_map, hu] at hx'
      obtain rfl : V.str (wS u) = x' := Option.some.inj hx'
      have lu := hus u (List.mem_of_getElem? hu)
      refine ⟨rfl, ?_⟩
      simp only [tSeq, tIfS, tOr, tAnd, tB, tTest, tCB, tCons, tVar, tC, tNil, tNot, tNotV, tRet, tRetN, tNext, tBreak, tOrV, tAndV, tOp, tUn, rEq, rNe, tChain, rI0, rI, rU, tAsg, gName, tDrop, tAug, ipI, tIf, tCall, tCallS, tLst, tTup, tBM, tBM0, rAppend, rExtend, rPop, rReverse, tyV, rIxL, rIxT, rIxS, rIsB, rNotB, L2.start, List.map_cons, List.map_nil, List.length_cons, List.length_nil, List.replicate, List.cons_append, List.nil_append, List.append_nil, List.getElem?_cons_zero, List.getElem?_cons_succ, List.set_cons_zero, List.set_cons_succ, Nat.reduceAdd, Nat.reduceSub, Option.some.injEq, exists_eq_left', exists_eq_left, V.int.injEq, V.bl.injEq, V.str.injEq, V.ref.injEq, List.cons.injEq, and_true, true_and, and_assoc, reduceCtorEq, false_and, exists_false, or_false, false_or, exists_and_left, exists_const, scal, Int.reduceLT, Int.reduceLE, Int.reduceSub, Int.reduceAdd, Int.reduceNeg, if_true, if_false, tMeth, wipe]
      refine iteT (B := ∃ ds : List W, Hb D = some (.dK (encW ds)) ∧ ds.Nodup ∧ ds.length ≤ i + 1 ∧ FlAt K cx.Floor Hb f o d a b c ∧ Same H Hb ∧ Hb L = some (.lst ((rs.map wS).map V.str)) ∧ ∀ y, y ∈ ds ↔ ∃ u ∈ us.take (i + 1), nfw a b c u = y) ?_
      obtain ⟨dx5, e5⟩ := Fa.1
      refine ⟨dx5, _, e5, fldsF_no _ _ (by decide +kernel) (by decide +kernel), f, o, d, a, b, c, u, rfl, Fa, by omega, fun H5 F5 b5 => ⟨encW ds, keyW (nfw a b c u), rfl, b5 _ _ hdD eD, ?_, FK.addS ds (nfw a b c u), ?_, FK.nd_addS nd, ?_, ?_, ?_, ?_, mem_take_map hu hm⟩⟩
      · unfold encW
        rw [List.length_map]
        exact Nat.lt_of_le_of_lt (show ds.length ≤ 100000 by omega) (by decide)
      · rw [upd_same, put_encW]
      · have := FK.len_addS (l := ds) (a := nfw a b c u)
        omega
      · exact F5.frX (b5 _ _ hdD eD) hdD (fun _ h => nomatch h) (fun _ _ h => nomatch h) (fun _ _ _ h => nomatch h) (fun b' u' e' hb => by rw [upd_ne hb]; exact e')
      · intro x' v' e'
        rw [upd_ne (fun z => by rw [z, hDH] at e'; cases e')]
        exact b5 _ _ (fun z => by rw [z, hd2'] at e'; cases e') (sa _ _ e')
      · rw [upd_ne nLD]
        exact b5 _ _ nLd eLa
    · rintro Hb ⟨ds, eD, nd2, ld, Fb, sb, eLb, hm⟩
      rw [ev, List.take_length] at hm
      refine ⟨D, rfl, _, eD, L, rfl, _, .inl (SqL.of eLb), ?_⟩
      have e := q3 rs ds Hb nd hrs hl nd2 hm sb
      rw [show decide (((encW ds).length : Int) = (((rs.map wS).map V.str).length : Int)) = decide (ds.length = rs.length) from decide_eq_decide.2 (by unfold encW; rw [List.length_map, List.length_map, List.length_map]; omega)]
      exact e
/-- a comprehension over a list whose body's calls leave what stands -/
theorem rd_lcM {α : Type} {wi : TI} {i : Nat} {te : TE} {vs : List Nat} {σ : L2.St} {H H1 : Hp} {J : It} {G : Hp → Prop} {Q : VK} (us : List α) (g f : α → V) (hw : ∀ R : It → Hp → Prop, R J H1 → wi σ H R) (w : Walk J (us.map g).length G (YAt (us.map g))) (hG : ∀ H', Same H1 H' → G H') (hl : us.length < sizeLine)
    (hv : ∀ x, wipe ((wipe σ vs).set i (some x)) vs = wipe σ vs)
    (hs : ∀ u H2 (R : VK), u ∈ us → Same H1 H2 → (∀ H3, Same H2 H3 → R (f u) H3) → te ((wipe σ vs).set i (some (g u))) H2 R)
    (hd : ∀ D H2, H1 D = none → Same H1 H2 → H2 D = some (.lst (us.map f)) → Q (.ref D) H2) : tLc wi (gName i) tYes te vs σ H Q := by
  have ln : (us.map g).length = us.length := List.length_map _
  refine FK.rd_lc hw w (fun j acc H' => acc = (us.take j).map f ∧ Same H1 H') (fun D hD => ⟨rfl, FK.same_new hD⟩) ?_ (fun j acc H' _ z => hG H' z.2) (by rw [ln]; exact hl) hv ?_ ?_
  · rintro D j acc y H' hD hD2 ⟨e, s1⟩
    exact ⟨e, FK.same_at hD s1⟩
  · rintro D j x acc H2 H3 R hD hj la ⟨rfl, s1⟩ hD2 ⟨rfl, hx⟩ go
    rw [ln] at hj
    have hu := List.getElem?_eq_getElem hj
    rw [List.getElem?_map, hu] at hx
    cases hx
    refine hs _ _ _ (List.getElem_mem hj) s1 fun H4 s4 => go _ _ (s4 _ _ hD2) ⟨?_, s1.trans s4⟩
    rw [List.take_add_one, hu, List.map_append]
    rfl
  · rintro D acc H2 hD la ⟨rfl, s1⟩ hD2
    rw [ln, List.take_length] at hD2
    exact hd D H2 hD s1 hD2

def spLimits (K : PySem.W.Frag) (CT : Addr) : Sp := fun vs H Q E => ∃ (o l : Addr) (ws : List W), vs = [.ref o, .ref l] ∧ SqL K H l ((ws.map wS).map V.str) ∧ ws ≠ [] ∧ ws.length ≤ 1000 ∧ (∀ u ∈ ws, u.length ≤ 500) ∧
  ((60 < ws.length ∨ ∃ u ∈ ws, 60 < u.length) → ∀ H', Same H H' → E (.ref CT) none H') ∧
  (ws.length ≤ 60 → (∀ u ∈ ws, u.length ≤ 60) → ∀ (ts : List W), ts.Perm ws → ts.Pairwise ole → ∀ p Lt H', Same H H' → H' p = some (.tup [.ref o, .ref Lt]) → H' Lt = some (.tup ((ts.map wS).map V.str)) → Q (.ref p) H')
theorem ok_polygon_within_limits (T : Txt K mg cx) : FK.Has P w K mg base (L2.CX P w) 3 "polygon_within_limits" ["orders", "tiles"] (spLimits K cx.TooLarge) := by
  have H_in_order := ok_in_order (P := P) (w := w) (base := base) T
  refine T.d_polygon_within_limits.okX sc_polygon_within_limits (fun vs H Q E h => ?_) (fun f' cdv A outer s H vs Q E hr h => ?_)
  · obtain ⟨o, l, ws, rfl, _⟩ := h
    rfl
  · obtain ⟨o, l, ws, rfl, hl, hne, h1, h5, q1, q2⟩ := h
    refine ⟨_, (pss_cons (ps_if (pt_cmpR op_gt (pe_callB call_len_seq (by rfl) T.n_len PySem.boot_len (pa_cons (pv 1) pa_nil)) (pe_glob (v := .int 60) rfl T.c_MOST_TILES ⟨_, rfl⟩) (nomark _)) (pss_one (ps_raise rfl (takes_of rfl rfl rfl rfl) (SkE.pmk_own1 PySem.F.excBase_ValueError T.x_TooLarge.x T.x_TooLarge.g T.x_TooLarge.k (raises_own T.x_TooLarge.b T.x_TooLarge.t) rfl (pe_joined (PJ.cons pe_str (PJ.cons (pe_fmt (pe_glob (v := .int 60) rfl T.c_MOST_TILES ⟨_, rfl⟩)) (PJ.cons pe_str PJ.nil))))))) pss_nil)
  (pss_cons (ps_if (pt_cmpR op_gt (pe_callB (show CallR _ (.builtin "max") (rMax K) from cr_max rfl) (by rfl) T.n_max (by decide +kernel) (pa_cons (pe_lc (own := [("tile", 2)]) (g := gName 2) (tt := tYes) rfl sc_polygon_within_limits.nd (pi_list (pv 1)) (blkOk_by (own := [("tile", 2)]) (N := ["orders", "tiles", "tile"]) (sc := defScope s_polygon_within_limits) (by decide +kernel)) (fun _ _ _ _ _ => (pg_name (i := 2) sc_polygon_within_limits.nd rfl (Or.inl rfl))) (fun _ _ _ _ _ => pts_nil) (fun _ _ _ _ _ => (pe_callB call_len_str (by rfl) T.n_len PySem.boot_len (pa_cons (pv 2) pa_nil)))) pa_nil)) (pe_glob (v := .int 60) rfl T.c_MOST_LETTERS ⟨_, rfl⟩) (nomark _)) (pss_one (ps_raise rfl (takes_of rfl rfl rfl rfl) (SkE.pmk_own1 PySem.F.excBase_ValueError T.x_TooLarge.x T.x_TooLarge.g T.x_TooLarge.k (raises_own T.x_TooLarge.b T.x_TooLarge.t) rfl (pe_joined (PJ.cons pe_str (PJ.cons (pe_fmt (pe_glob (v := .int 60) rfl T.c_MOST_LETTERS ⟨_, rfl⟩)) (PJ.cons pe_str PJ.nil))))))) pss_nil)
  (pss_one (ps_ret (pe_tup (pa_cons (pv 0) (pa_cons (pe_callTy call_tuple_of (by rfl) T.n_tuple (by decide +kernel) (pa_cons (FK.pe_h (E := E0) H_in_order (hr.mono (by decide)) pass0 (pa_cons (pv 1) pa_nil)) pa_nil)) pa_nil))))))), ?_⟩
    simp only [tSeq, tIfS, tOr, tAnd, tB, tTest, tCB, tCons, tVar, tC, tNil, tNot, tNotV, tRet, tRetN, tNext, tBreak, tOrV, tAndV, tOp, tUn, rEq, rNe, tChain, rI0, rI, rU, tAsg, gName, tDrop, tAug, ipI, tIf, tCall, tCallS, tLst, tTup, tBM, tBM0, rAppend, rExtend, rPop, rReverse, tyV, rIxL, rIxT, rIxS, rIsB, rNotB, L2.start, List.map_cons, List.map_nil, List.length_cons, List.length_nil, List.replicate, List.cons_append, List.nil_append, List.append_nil, List.getElem?_cons_zero, List.getElem?_cons_succ, List.set_cons_zero, List.set_cons_succ, Nat.reduceAdd, Nat.reduceSub, Option.some.injEq, exists_eq_left', exists_eq_left, V.int.injEq, V.bl.injEq, V.str.injEq, V.ref.injEq, List.cons.injEq, and_true, true_and, and_assoc, reduceCtorEq, false_and, exists_false, or_false, false_or, exists_and_left, exists_const, scal, Int.reduceLT, Int.reduceLE, Int.reduceSub, Int.reduceAdd, Int.reduceNeg, if_true, if_false]
    simp only [tJs, tFmt, tC]
    have lw : ((ws.map wS).map V.str).length = ws.length := by rw [List.length_map, List.length_map]
    refine ⟨_, .inl hl, ?_⟩
    rw [lw]
    refine ite2 (fun c1 => ?_) (fun c1 => ?_)
    · have c1 : 60 < (ws.length : Int) := of_decide_eq_true c1
      exact ⟨_, rfl, by decide +kernel, .inr ⟨60, rfl, by decide +kernel, _, rfl, by decide +kernel, _, rfl, by decide +kernel, q1 (.inl (by omega)) H (Same.refl _)⟩⟩
    · have c1 : ¬ 60 < (ws.length : Int) := fun z => c1 (decide_eq_true z)
      refine rd_lcM (J := Itl K l) (H1 := H) (ws.map wS) V.str (fun x => V.int x.length) (fun R r => ⟨_, rfl, l, rfl, ⟨_, hl⟩, r⟩) walk_list (fun H' s' => s'.seq hl) (by rw [List.length_map]; exact Nat.lt_of_le_of_lt h1 (by decide)) (fun _ => rfl) ?_ ?_
      · intro x H2 R hxm s2 go
        obtain ⟨u, hu, rfl⟩ := List.mem_map.mp hxm
        simp only [tSeq, tIfS, tOr, tAnd, tB, tTest, tCB, tCons, tVar, tC, tNil, tNot, tNotV, tRet, tRetN, tNext, tBreak, tOrV, tAndV, tOp, tUn, rEq, rNe, tChain, rI0, rI, rU, tAsg, gName, tDrop, tAug, ipI, tIf, tCall, tCallS, tLst, tTup, tBM, tBM0, rAppend, rExtend, rPop, rReverse, tyV, rIxL, rIxT, rIxS, rIsB, rNotB, L2.start, List.map_cons, List.map_nil, List.length_cons, List.length_nil, List.replicate, List.cons_append, List.nil_append, List.append_nil, List.getElem?_cons_zero, List.getElem?_cons_succ, List.set_cons_zero, List.set_cons_succ, Nat.reduceAdd, Nat.reduceSub, Option.some.injEq, exists_eq_left', exists_eq_left, V.int.injEq, V.bl.injEq, V.str.injEq, V.ref.injEq, List.cons.injEq, and_true, true_and, and_assoc, reduceCtorEq, false_and, exists_false, or_false, false_or, exists_and_left, exists_const, scal, Int.reduceLT, Int.reduceLE, Int.reduceSub, Int.reduceAdd, Int.reduceNeg, if_true, if_false, wipe]
        exact ⟨Nat.le_of_lt (szw (by have := h5 u hu; omega)), go H2 (Same.refl _)⟩
      · intro D H2 hD s2 e2
        refine ⟨D, ws.map (fun u => (u.length : Int)), rfl, SqL.of (by rw [e2, List.map_map, List.map_map]; congr 2; refine List.map_congr_left fun u _ => ?_; show V.int _ = V.int _; rw [wS_len]), ?_, fun m hm hmax => ?_⟩
        · rw [List.length_map]
          exact List.length_pos_iff.mpr hne
        · refine ⟨m, rfl, ite2 (fun c2 => ?_) (fun c2 => ?_)⟩
          · have c2 : 60 < m := of_decide_eq_true c2
            obtain ⟨u, hu, rfl⟩ := List.mem_map.mp hm
            exact ⟨_, rfl, by decide +kernel, .inr ⟨60, rfl, by decide +kernel, _, rfl, by decide +kernel, _, rfl, by decide +kernel, q1 (.inr ⟨u, hu, by omega⟩) H2 s2⟩⟩
          · have c2 : ¬ 60 < m := fun z => c2 (decide_eq_true z)
            have all : ∀ u ∈ ws, u.length ≤ 60 := fun u hu => by
              have := hmax _ (List.mem_map.mpr ⟨u, hu, rfl⟩)
              omega
            refine ⟨l, ws, rfl, s2.seq hl, h5, fun ys p H3 pm pw hp eP s3 => ⟨p, rfl, _, .inl ⟨SqL.of eP, fun l2 hl2 => ⟨by decide, fun p2 hp2 => ?_⟩⟩⟩⟩
            have s7 : Same H3 (upd (upd H3 l2 (.tup ((ys.map wS).map V.str))) p2 (.tup [.ref o, .ref l2])) := (FK.same_new hl2).trans (FK.same_new hp2)
            exact q2 (by omega) all ys pm pw p2 l2 _ ((s2.trans s3).trans s7) upd_same (FK.same_new hp2 _ _ upd_same)

def spHullPoly (K : PySem.W.Frag) (CA CT : Addr) : Sp := fun vs H Q E => ∃ (o l : Addr) (a b c : Nat) (us : List W), vs = [.ref o, .ref l] ∧ Og K H o a b c ∧ H l = some (.lst ((us.map wS).map V.str)) ∧ (∀ u ∈ us, u.length ≤ 60) ∧
  (us = [] → ∀ H', Same H H' → E (.ref CA) none H') ∧ (us ≠ [] → 60 < us.length → ∀ H', Same H H' → E (.ref CT) none H') ∧
  (us.length ≤ 60 → ∀ u0, us[0]? = some u0 → (nfw a b c u0).length ≤ 50 ∧
    (∀ rs : List W, rs.Nodup → (∀ r ∈ rs, HullC a b c us u0 r) → 60 < rs.length → ∀ H', Same H H' → E (.ref CT) none H') ∧
    (∀ (rs : List W), rs.Nodup → (∀ y, y ∈ rs ↔ HullC a b c us u0 y) → rs.length ≤ 60 → (∀ r ∈ rs, r.length ≤ 60) ∧ ∀ ts : List W, ts.Perm rs → ts.Pairwise ole → ∀ p Lt H', Same H H' → H' p = some (.tup [.ref o, .ref Lt]) → H' Lt = some (.tup ((ts.map wS).map V.str)) → Q (.ref p) H'))
theorem ok_hull_polygon (T : Txt K mg cx) : FK.Has P w K mg base (L2.CX P w) 10 "hull_polygon" ["orders", "words"] (spHullPoly K cx.NoAnswer cx.TooLarge) := by
  have H_hull_within := ok_hull_within (P := P) (w := w) (base := base) T
  have H_polygon_within_limits := ok_polygon_within_limits (P := P) (w := w) (base := base) T
  refine T.d_hull_polygon.okX sc_hull_polygon (fun vs H Q E h => ?_) (fun f' cdv A outer s H vs Q E hr h => ?_)
  · obtain ⟨o, l, a, b, c, us, rfl, _⟩ := h
    rfl
  · obtain ⟨o, l, a, b, c, us, rfl, G, hL, hus, qA, qT, q⟩ := h
    refine ⟨_, (pss_one (ps_ret (FK.pe_h (E := E) H_polygon_within_limits (hr.mono (by decide)) (passes_call (takes_of rfl rfl rfl rfl) (fun _ _ _ _ h => h)) (pa_cons (pv 0) (pa_cons (FK.pe_h (E := E) H_hull_within (hr.mono (by decide)) (passes_call (takes_of rfl rfl rfl rfl) (fun _ _ _ _ h => h)) (pa_cons (pv 0) (pa_cons (pv 1) (pa_cons (pe_glob (v := .int 60) rfl T.c_MOST_TILES ⟨_, rfl⟩) pa_nil)))) pa_nil))))), ?_⟩
    simp only [tSeq, tIfS, tOr, tAnd, tB, tTest, tCB, tCons, tVar, tC, tNil, tNot, tNotV, tRet, tRetN, tNext, tBreak, tOrV, tAndV, tOp, tUn, rEq, rNe, tChain, rI0, rI, rU, tAsg, gName, tDrop, tAug, ipI, tIf, tCall, tCallS, tLst, tTup, tBM, tBM0, rAppend, rExtend, rPop, rReverse, tyV, rIxL, rIxT, rIxS, rIsB, rNotB, L2.start, List.map_cons, List.map_nil, List.length_cons, List.length_nil, List.replicate, List.cons_append, List.nil_append, List.append_nil, List.getElem?_cons_zero, List.getElem?_cons_succ, List.set_cons_zero, List.set_cons_succ, Nat.reduceAdd, Nat.reduceSub, Option.some.injEq, exists_eq_left', exists_eq_left, V.int.injEq, V.bl.injEq, V.str.injEq, V.ref.injEq, List.cons.injEq, and_true, true_and, and_assoc, reduceCtorEq, false_and, exists_false, or_false, false_or, exists_and_left, exists_const, scal, Int.reduceLT, Int.reduceLE, Int.reduceSub, Int.reduceAdd, Int.reduceNeg, if_true, if_false]
    refine ⟨o, l, a, b, c, 60, us, rfl, G, hL, hus, .inr rfl, qA, qT, fun le u0 h0 => ?_⟩
    obtain ⟨l50, qE, q3⟩ := q le u0 h0
    refine ⟨l50, qE, fun rs L H1 nd hrs hl hl3 hLn eL s1 => ?_⟩
    obtain ⟨h60, q4⟩ := q3 rs nd hrs hl
    refine ⟨o, L, rs, rfl, SqL.of eL, fun z => ?_, by omega, fun u hu => by have := hl3 u hu; omega, fun h => ?_, fun _ _ ts pm pw p Lt H2 s2 e1 e2 => q4 ts pm pw p Lt H2 (s1.trans s2) e1 e2⟩
    · have := (hrs (nfw a b c u0)).mpr .refl
      rw [z] at this
      cases this
    · rcases h with h | ⟨u, hu, h⟩
      · omega
      · have := h60 u hu
        omega


end
end K32

namespace K32
open PySem PySem.Spec PyProof.Rows L2 Cox
section
variable {P : Program} {w : World} {K : PySem.W.Frag} {mg : Str → Option Value} {base : Heap} {cx : Xs}
def fldsT (f n : Addr) : List (Str × V) := putF "normals" (.ref n) (putF "floor" (.ref f) [])
theorem ksf : ¬ (("floor" : Str) = "normals") := by decide +kernel
theorem fldsT_f (f n : Addr) : (fldsT f n).lookup ("floor" : Str) = some (.ref f) := by
  unfold fldsT
  rw [lookup_putF, if_neg ksf, lookup_putF, if_pos rfl]
theorem fldsT_n (f n : Addr) : (fldsT f n).lookup ("normals" : Str) = some (.ref n) := by
  unfold fldsT
  rw [lookup_putF, if_pos rfl]
theorem fldsT_no (f n : Addr) {m : Str} (h1 : ¬ m = "normals") (h2 : ¬ m = "floor") : (fldsT f n).lookup m = none := by
  unfold fldsT
  rw [lookup_putF, if_neg h1, lookup_putF, if_neg h2]
  all_goals rfl
/-- a Tiles stands at t, with at most k words remembered -/
structure TlAt (K : PySem.W.Frag) (CT CF : Addr) (H : Hp) (t f n o d : Addr) (a b c k : Nat) : Prop where
  ob : ∃ dx, H t = some (.ins CT dx (fldsT f n))
  fl : FlAt K CF H f o d a b c
  nd : n ≠ d
  dc : ∃ kvs : List (Key × V), H n = some (.dK kvs) ∧ (kvs.map (·.1)).Nodup ∧ kvs.length ≤ k ∧ ∀ kv ∈ kvs, ∃ u : W, u.length ≤ 400 ∧ kv = (.inr (wS u), .str (wS (nfw a b c u)))
/-- all but two places stay -/
def But2 (d n : Addr) (H H' : Hp) : Prop := ∀ b u, b ≠ d → b ≠ n → H b = some u → H' b = some u
theorem But2.trans {d n : Addr} {H H1 H2 : Hp} (h : But2 d n H H1) (k : But2 d n H1 H2) : But2 d n H H2 := fun b u h1 h2 e => k b u h1 h2 (h b u h1 h2 e)
theorem But2.of {d n : Addr} {H H1 : Hp} (h : FK.But d H H1) : But2 d n H H1 := fun b u h1 _ e => h b u h1 e
theorem FlAt.updN {C : Addr} {H : Hp} {f o d n : Addr} {a b c : Nat} {kvs : List (Key × V)} {u : HO} (F : FlAt K C H f o d a b c) (hn : H n = some (.dK kvs)) (nd : n ≠ d) : FlAt K C (upd H n u) f o d a b c := by
  obtain ⟨⟨dx, h1⟩, h2, ha, hb, hc, k2, h3, h4, h5⟩ := F
  refine ⟨⟨dx, by rw [upd_ne (fun z => by rw [z, hn] at h1; cases h1)]; exact h1⟩, SqT.upd h2 hn, ha, hb, hc, k2, by rw [upd_ne nd.symm]; exact h3, h4, fun kv hm => ?_⟩
  obtain ⟨s', p, a1, a2, a3⟩ := h5 kv hm
  exact ⟨s', p, a1, a2, a3.upd hn⟩
theorem SqT.frame {H H' : Hp} {o t : Addr} {xs : List V} {C dx : Addr} {fl : List (Str × V)} (h : SqT K H o xs) (ht : H t = some (.ins C dx fl)) (fr : ∀ b u, H b = some u → b ≠ t → H' b = some u) : SqT K H' o xs := by
  rcases h with (h | ⟨ob, h⟩) | h
  · exact .inl (.inl (fr _ _ h (fun z => by rw [z, ht] at h; cases h)))
  · exact .inl (.inr ⟨ob, fr _ _ h (fun z => by rw [z, ht] at h; cases h)⟩)
  · exact .inr h
theorem ScAt.frame {H H' : Hp} {p t : Addr} {a b c bits : Nat} {C dx : Addr} {fl : List (Str × V)} (h : ScAt K H p a b c bits) (ht : H t = some (.ins C dx fl)) (fr : ∀ b u, H b = some u → b ≠ t → H' b = some u) : ScAt K H' p a b c bits := by
  obtain ⟨bt, h1, h2⟩ := h
  exact ⟨bt, fr _ _ h1 (fun z => by rw [z, ht] at h1; cases h1), fr _ _ h2 (fun z => by rw [z, ht] at h2; cases h2)⟩
theorem FlAt.frame {C : Addr} {H H' : Hp} {f o d t : Addr} {a b c : Nat} {C' dx' : Addr} {fl : List (Str × V)} (F : FlAt K C H f o d a b c) (ht : H t = some (.ins C' dx' fl)) (fr : ∀ b u, H b = some u → b ≠ t → H' b = some u) (nt : t ≠ f) : FlAt K C H' f o d a b c := by
  obtain ⟨⟨dx, h1⟩, h2, ha, hb, hc, k2, h3, h4, h5⟩ := F
  refine ⟨⟨dx, fr _ _ h1 nt.symm⟩, SqT.frame h2 ht fr, ha, hb, hc, k2, fr _ _ h3 (fun z => by rw [z, ht] at h3; cases h3), h4, fun kv hm => ?_⟩
  obtain ⟨s', p, a1, a2, a3⟩ := h5 kv hm
  exact ⟨s', p, a1, a2, ScAt.frame a3 ht fr⟩
def spTilesInit (K : PySem.W.Frag) (CT CF : Addr) : Sp := fun vs H Q _ => ∃ (t o dx : Addr) (a b c : Nat), vs = [.ref t, .ref o] ∧ H t = some (.ins CT dx []) ∧ Og K H o a b c ∧
  ∀ f n d H', TlAt K CT CF H' t f n o d a b c 0 → H n = none → H d = none → (∀ b u, H b = some u → b ≠ t → H' b = some u) → Q .non H'
theorem ok_Tiles_init (T : Txt K mg cx) : FK.IHas P w K mg base (L2.CX P w) 5 cx.Tiles ["self", "orders"] (spTilesInit K cx.Tiles cx.Floor) := by
  have H_check_orders := ok_check_orders (P := P) (w := w) (base := base) T
  have H_Floor_init := ok_Floor_init (P := P) (w := w) (mg := mg) (base := base) T
  refine T.d_Tiles_init.okX sc_Tiles_init (fun vs H Q E h => ?_) (fun f cdv A outer s H vs Q E hr h => ?_)
  · obtain ⟨f, o, dx, a, b, c, rfl, _⟩ := h
    rfl
  · obtain ⟨t, o, dx, a, b, c, rfl, ht, g, q⟩ := h
    refine ⟨_, (pss_cons (ps_expr (FK.pe_h (E := E) H_check_orders (hr.mono (by decide)) (passes_call (takes_of rfl rfl rfl rfl) (fun _ _ _ _ h => h)) (pa_cons (pv 1) pa_nil)))
  (pss_cons (ps_fld (pv 0) (FK.pe_i (E := E0) H_Floor_init (hr.mono (by decide)) T.g_Floor pass0 (pa_cons (pv 1) pa_nil)) rfl)
  (pss_one (ps_fld (pv 0) pe_dnewK rfl)))), ?_⟩
    simp only [tSeq, tIfS, tOr, tAnd, tB, tTest, tCB, tCons, tVar, tC, tNil, tNot, tNotV, tRet, tRetN, tNext, tBreak, tOrV, tAndV, tOp, tUn, rEq, rNe, tChain, rI0, rI, rU, tAsg, gName, tDrop, tAug, ipI, tIf, tCall, tCallS, tLst, tTup, tBM, tBM0, rAppend, rExtend, rPop, rReverse, tyV, rIxL, rIxT, rIxS, rIsB, rNotB, L2.start, List.map_cons, List.map_nil, List.length_cons, List.length_nil, List.replicate, List.cons_append, List.nil_append, List.append_nil, List.getElem?_cons_zero, List.getElem?_cons_succ, List.set_cons_zero, List.set_cons_succ, Nat.reduceAdd, Nat.reduceSub, Option.some.injEq, exists_eq_left', exists_eq_left, V.int.injEq, V.bl.injEq, V.str.injEq, V.ref.injEq, List.cons.injEq, and_true, true_and, and_assoc, reduceCtorEq, false_and, exists_false, or_false, false_or, exists_and_left, exists_const, scal, Int.reduceLT, Int.reduceLE, Int.reduceSub, Int.reduceAdd, Int.reduceNeg, if_true, if_false, tMeth, tMake]
    refine ⟨o, [(a : Int), (b : Int), (c : Int)], rfl, SqT.of g.ob, (fun e => by rw [g.ok] at e; cases e), fun _ H1 s1 => ?_⟩
    simp only [tSeq, tIfS, tOr, tAnd, tB, tTest, tCB, tCons, tVar, tC, tNil, tNot, tNotV, tRet, tRetN, tNext, tBreak, tOrV, tAndV, tOp, tUn, rEq, rNe, tChain, rI0, rI, rU, tAsg, gName, tDrop, tAug, ipI, tIf, tCall, tCallS, tLst, tTup, tBM, tBM0, rAppend, rExtend, rPop, rReverse, tyV, rIxL, rIxT, rIxS, rIsB, rNotB, L2.start, List.map_cons, List.map_nil, List.length_cons, List.length_nil, List.replicate, List.cons_append, List.nil_append, List.append_nil, List.getElem?_cons_zero, List.getElem?_cons_succ, List.set_cons_zero, List.set_cons_succ, Nat.reduceAdd, Nat.reduceSub, Option.some.injEq, exists_eq_left', exists_eq_left, V.int.injEq, V.bl.injEq, V.str.injEq, V.ref.injEq, List.cons.injEq, and_true, true_and, and_assoc, reduceCtorEq, false_and, exists_false, or_false, false_or, exists_and_left, exists_const, scal, Int.reduceLT, Int.reduceLE, Int.reduceSub, Int.reduceAdd, Int.reduceNeg, if_true, if_false, sFld, tMake]
    refine fun f dx1 hf hdx ne => ⟨f, o, dx1, rfl, upd_same, fun d H4 hd e1 e2 kp => ?_⟩
    obtain ⟨F, s4, hd2⟩ := floor_new (SqT.of (g.same s1).ob) g.ha g.hb g.hc hf hdx hd e1 e2 kp
    have t1 : H1 t = _ := s1 _ _ ht
    have t4 : H4 t = _ := s4 _ _ t1
    refine ⟨rfl, cx.Tiles, dx, [], t4, T.cl_Tiles, T.nF_Tiles_floor, (by show 0 < 1000; decide), fun n hn => ?_⟩
    have ntn : n ≠ t := fun z => by rw [z, upd_same] at hn; cases hn
    have hn4 : H4 n = none := by rw [upd_ne ntn] at hn; exact hn
    have ntf : t ≠ f := fun z => by rw [z, hf] at t1; cases t1
    have ntd : t ≠ d := fun z => by rw [z, hd2] at t1; cases t1
    have nnd : n ≠ d := fun z => by rw [z, e2] at hn4; cases hn4
    have hn0 : H n = none := back (s1.trans s4) hn4
    have hd0 : H d = none := back s1 hd2
    refine ⟨cx.Tiles, dx, _, by rw [upd_ne ntn.symm, upd_same], T.cl_Tiles, T.nF_Tiles_normals, (by show 1 < 1000; decide), ?_⟩
    have fr : ∀ b u, H4 b = some u → b ≠ t → upd (upd (upd H4 t (.ins cx.Tiles dx (putF "floor" (.ref f) []))) n (.dK [])) t (.ins cx.Tiles dx (fldsT f n)) b = some u := fun b u e hb => by
      rw [upd_ne hb, upd_ne (fun z => by rw [z, hn4] at e; cases e), upd_ne hb]
      exact e
    exact q f n d _ ⟨⟨dx, upd_same⟩, F.frame t4 fr ntf, nnd, [], by rw [upd_ne ntn, upd_same], List.nodup_nil, Nat.zero_le _, fun _ h => nomatch h⟩ hn0 hd0 fun b u e hb => fr b u (s4 _ _ (s1 _ _ e)) hb
def spRemem (K : PySem.W.Frag) (CT CF : Addr) : Sp := fun vs H Q _ => ∃ (t f n o d : Addr) (a b c k : Nat) (u : W), vs = [.ref t, .str (wS u)] ∧ TlAt K CT CF H t f n o d a b c k ∧ u.length ≤ 400 ∧ k ≤ 10000 ∧
  ∀ H', TlAt K CT CF H' t f n o d a b c (k + 1) → But2 d n H H' → Q (.str (wS (nfw a b c u))) H'
theorem ok_Tiles_remembered (T : Txt K mg cx) : FK.MHas P w K mg base CX0 6 cx.Tiles "remembered" ["self", "word"] (spRemem K cx.Tiles cx.Floor) := by
  have H_Floor_normal := ok_Floor_normal (P := P) (w := w) (mg := mg) (base := base) T
  refine T.d_Tiles_remembered.ok sc_Tiles_remembered (fun vs H Q E h => ?_) (fun f cdv A outer s H vs Q E hr h => ?_)
  · obtain ⟨t, f, n, o, d, a, b, c, k, u, rfl, _⟩ := h
    rfl
  · obtain ⟨t, f, n, o, d, a, b, c, k, u, rfl, Tl, hu, hk, q⟩ := h
    obtain ⟨⟨dx, h1⟩, h2, h0, kvs, h3, h4, h5, h6⟩ := id Tl
    refine ⟨_, (pss_cons (ps_if (pt_cmp (pc_dnotin (hu_of hr) (pv 1) (pe_fld (pv 0) rfl))) (pss_one (ps_dput (hu_of hr) (pe_fld (pv 0) rfl) (pv 1) (FK.pe_m (E := E0) (pe_fld (pv 0) rfl) T.cl_Floor H_Floor_normal (hr.mono (by decide)) pass0 (pa_cons (pv 1) pa_nil)) rfl)) pss_nil)
  (pss_one (ps_ret (pe_dget (hu_of hr) (pe_fld (pv 0) rfl) (pv 1) (fun _ _ => rfl))))), ?_⟩
    simp only [tSeq, tIfS, tOr, tAnd, tB, tTest, tCB, tCons, tVar, tC, tNil, tNot, tNotV, tRet, tRetN, tNext, tBreak, tOrV, tAndV, tOp, tUn, rEq, rNe, tChain, rI0, rI, rU, tAsg, gName, tDrop, tAug, ipI, tIf, tCall, tCallS, tLst, tTup, tBM, tBM0, rAppend, rExtend, rPop, rReverse, tyV, rIxL, rIxT, rIxS, rIsB, rNotB, L2.start, List.map_cons, List.map_nil, List.length_cons, List.length_nil, List.replicate, List.cons_append, List.nil_append, List.append_nil, List.getElem?_cons_zero, List.getElem?_cons_succ, List.set_cons_zero, List.set_cons_succ, Nat.reduceAdd, Nat.reduceSub, Option.some.injEq, exists_eq_left', exists_eq_left, V.int.injEq, V.bl.injEq, V.str.injEq, V.ref.injEq, List.cons.injEq, and_true, true_and, and_assoc, reduceCtorEq, false_and, exists_false, or_false, false_or, exists_and_left, exists_const, scal, Int.reduceLT, Int.reduceLE, Int.reduceSub, Int.reduceAdd, Int.reduceNeg, if_true, if_false, tMeth]
    refine ⟨_, rfl, _, rfl, t, cx.Tiles, dx, _, _, rfl, h1, T.cl_Tiles, T.nF_Tiles_normals, fldsT_n _ _, n, _, rfl, DGet.k (k := Sum.inr (wS u)) h3, _, rfl, ?_⟩
    cases e : valV kvs (Sum.inr (wS u)) with
    | none =>
      refine iteT' (by simp) ?_
      simp only [tSeq, tIfS, tOr, tAnd, tB, tTest, tCB, tCons, tVar, tC, tNil, tNot, tNotV, tRet, tRetN, tNext, tBreak, tOrV, tAndV, tOp, tUn, rEq, rNe, tChain, rI0, rI, rU, tAsg, gName, tDrop, tAug, ipI, tIf, tCall, tCallS, tLst, tTup, tBM, tBM0, rAppend, rExtend, rPop, rReverse, tyV, rIxL, rIxT, rIxS, rIsB, rNotB, L2.start, List.map_cons, List.map_nil, List.length_cons, List.length_nil, List.replicate, List.cons_append, List.nil_append, List.append_nil, List.getElem?_cons_zero, List.getElem?_cons_succ, List.set_cons_zero, List.set_cons_succ, Nat.reduceAdd, Nat.reduceSub, Option.some.injEq, exists_eq_left', exists_eq_left, V.int.injEq, V.bl.injEq, V.str.injEq, V.ref.injEq, List.cons.injEq, and_true, true_and, and_assoc, reduceCtorEq, false_and, exists_false, or_false, false_or, exists_and_left, exists_const, scal, Int.reduceLT, Int.reduceLE, Int.reduceSub, Int.reduceAdd, Int.reduceNeg, if_true, if_false, sDPut, tMeth]
      obtain ⟨dxf, ef⟩ := h2.ob
      refine ⟨_, rfl, t, cx.Tiles, dx, _, _, rfl, h1, T.cl_Tiles, T.nF_Tiles_floor, fldsT_f _ _, f, rfl, dxf, _, ef, fldsF_no _ _ (by decide +kernel) (by decide +kernel), f, o, d, a, b, c, u, rfl, h2, by omega, fun H5 F5 b5 => ?_⟩
      have nt : t ≠ d := fun z => by
        obtain ⟨_, _, _, _, _, k2, h7, _⟩ := h2
        rw [← z, h1] at h7
        cases h7
      have ntn : t ≠ n := fun z => by rw [z, h3] at h1; cases h1
      have k1 := b5 _ _ nt h1
      have k3 := b5 _ _ h0 h3
      refine ⟨_, rfl, t, cx.Tiles, dx, _, _, rfl, k1, T.cl_Tiles, T.nF_Tiles_normals, fldsT_n _ _, n, rfl, _, DPut.k (k := Sum.inr (wS u)) k3 (Nat.lt_of_le_of_lt (show _ ≤ 10000 by omega) (by decide)), ?_⟩
      have hg := DGet.k (k := Sum.inr (wS u)) (upd_same (H := H5) (a := n) (o := HO.dK (putK kvs (Sum.inr (wS u)) (V.str (wS (nfw a b c u))))))
      rw [valV_put, if_pos rfl] at hg
      refine ⟨_, rfl, t, cx.Tiles, dx, _, _, rfl, by rw [upd_ne ntn]; exact k1, T.cl_Tiles, T.nF_Tiles_normals, fldsT_n _ _, _, rfl, n, _, rfl, hg, q _ ⟨⟨dx, by rw [upd_ne ntn]; exact k1⟩, F5.updN k3 h0, h0, _, upd_same, nd_putK _ h4 e, ?_, fun kv hm => ?_⟩ (fun b u h1 h2 e => by rw [upd_ne h2]; exact b5 b u h1 e)⟩
      · rw [putK_new _ e, List.length_append, List.length_singleton]
        omega
      · rw [putK_new _ e] at hm
        rcases List.mem_append.mp hm with hm | hm
        · exact h6 kv hm
        · exact ⟨u, hu, List.mem_singleton.mp hm⟩
    | some v =>
      refine iteF' (by simp) ?_
      have hm := valV_mem e
      obtain ⟨u', lu', hp⟩ := h6 _ hm
      have e1 : u = u' := wS_inj (by
        have := congrArg Prod.fst hp
        simpa using this)
      have e2 : v = V.str (wS (nfw a b c u')) := congrArg Prod.snd hp
      subst e1 e2
      have hg := DGet.k (k := Sum.inr (wS u)) h3
      rw [e] at hg
      exact ⟨_, rfl, t, cx.Tiles, dx, _, _, rfl, h1, T.cl_Tiles, T.nF_Tiles_normals, fldsT_n _ _, _, rfl, n, _, rfl, hg, q H ⟨⟨dx, h1⟩, h2, h0, kvs, h3, h4, by omega, h6⟩ (fun _ _ _ _ e => e)⟩
def spTNorm (K : PySem.W.Frag) (CT CF : Addr) : Sp := spRemem K CT CF
theorem ok_Tiles_normal (T : Txt K mg cx) : FK.MHas P w K mg base (L2.CX P w) 7 cx.Tiles "normal" ["self", "word"] (spTNorm K cx.Tiles cx.Floor) := by
  have H_check_long_word := ok_check_long_word (P := P) (w := w) (base := base) T
  have H_Tiles_remembered := ok_Tiles_remembered (P := P) (w := w) (mg := mg) (base := base) T
  refine T.d_Tiles_normal.okX sc_Tiles_normal (fun vs H Q E h => ?_) (fun f cdv A outer s H vs Q E hr h => ?_)
  · obtain ⟨t, f, n, o, d, a, b, c, k, u, rfl, _⟩ := h
    rfl
  · obtain ⟨t, f, n, o, d, a, b, c, k, u, rfl, Tl, hu, hk, q⟩ := h
    refine ⟨_, (pss_cons (ps_expr (FK.pe_h (E := E) H_check_long_word (hr.mono (by decide)) (passes_call (takes_of rfl rfl rfl rfl) (fun _ _ _ _ h => h)) (pa_cons (pv 1) (pa_cons (pe_glob (v := .int 400) rfl T.c_MOST_REMEMBERED ⟨_, rfl⟩) pa_nil))))
  (pss_one (ps_ret (FK.pe_m (E := E0) (pv 0) T.cl_Tiles H_Tiles_remembered (hr.mono (by decide)) pass0 (pa_cons (pv 1) pa_nil))))), ?_⟩
    simp only [tSeq, tIfS, tOr, tAnd, tB, tTest, tCB, tCons, tVar, tC, tNil, tNot, tNotV, tRet, tRetN, tNext, tBreak, tOrV, tAndV, tOp, tUn, rEq, rNe, tChain, rI0, rI, rU, tAsg, gName, tDrop, tAug, ipI, tIf, tCall, tCallS, tLst, tTup, tBM, tBM0, rAppend, rExtend, rPop, rReverse, tyV, rIxL, rIxT, rIxS, rIsB, rNotB, L2.start, List.map_cons, List.map_nil, List.length_cons, List.length_nil, List.replicate, List.cons_append, List.nil_append, List.append_nil, List.getElem?_cons_zero, List.getElem?_cons_succ, List.set_cons_zero, List.set_cons_succ, Nat.reduceAdd, Nat.reduceSub, Option.some.injEq, exists_eq_left', exists_eq_left, V.int.injEq, V.bl.injEq, V.str.injEq, V.ref.injEq, List.cons.injEq, and_true, true_and, and_assoc, reduceCtorEq, false_and, exists_false, or_false, false_or, exists_and_left, exists_const, scal, Int.reduceLT, Int.reduceLE, Int.reduceSub, Int.reduceAdd, Int.reduceNeg, if_true, if_false, tMeth]
    refine ⟨wS u, 400, rfl, szw (by omega), .inr (.inr rfl), (fun e => by rw [okWord_wS (by omega)] at e; cases e), fun _ H1 s1 => ?_⟩
    obtain ⟨⟨dx, h1⟩, h2, h0, kvs, h3, h4, h5, h6⟩ := id Tl
    exact ⟨dx, _, s1 _ _ h1, fldsT_no _ _ (by decide +kernel) (by decide +kernel), t, f, n, o, d, a, b, c, k, u, rfl, ⟨⟨dx, s1 _ _ h1⟩, h2.same s1, h0, kvs, s1 _ _ h3, h4, h5, h6⟩, hu, hk, fun H2 Tl2 b2 => q H2 Tl2 (fun b u h1 h2 e => b2 b u h1 h2 (s1 _ _ e))⟩

theorem TlAt.mono {CT CF : Addr} {H : Hp} {t f n o d : Addr} {a b c j k : Nat} (h : TlAt K CT CF H t f n o d a b c j) (hk : j ≤ k) : TlAt K CT CF H t f n o d a b c k := by
  obtain ⟨h1, h2, h3, kvs, h4, h5, h6, h7⟩ := h
  exact ⟨h1, h2, h3, kvs, h4, h5, by omega, h7⟩
structure Sv (K : PySem.W.Frag) (CT CF : Addr) (H : Hp) (o t f n d : Addr) (x y z k : Nat) : Prop where
  g : Og K H o x y z
  tl : TlAt K CT CF H t f n o d x y z k
theorem Sv.fr {CT CF : Addr} {H H' : Hp} {o t f n d D : Addr} {x y z k : Nat} {v : HO} (h : Sv K CT CF H o t f n d x y z k) (hv : (∃ acc, v = .lst acc) ∨ ∃ kvs, v = .dK kvs) (hD : H D = some v) (nn : D ≠ n) (nd : D ≠ d)
    (fr : ∀ b u, H b = some u → b ≠ D → H' b = some u) : Sv K CT CF H' o t f n d x y z k := by
  have tup : ∀ {p : Addr} {l : List V}, H p = some (.tup l) → H' p = some (.tup l) := fun {p l} e => fr p _ e (fun q => by
    rw [q, hD] at e
    rcases hv with ⟨_, rfl⟩ | ⟨_, rfl⟩ <;> cases e)
  have frz : ∀ {p : Addr} {ob : Obj} {u : HO}, H p = some (.frz ob u) → H' p = some (.frz ob u) := fun {p ob u} e => fr p _ e (fun q => by
    rw [q, hD] at e
    rcases hv with ⟨_, rfl⟩ | ⟨_, rfl⟩ <;> cases e)
  have ins : ∀ {p C dx : Addr} {l : List (Str × V)}, H p = some (.ins C dx l) → H' p = some (.ins C dx l) := fun {p C dx l} e => fr p _ e (fun q => by
    rw [q, hD] at e
    rcases hv with ⟨_, rfl⟩ | ⟨_, rfl⟩ <;> cases e)
  obtain ⟨⟨g1, ga, gb, gc⟩, ⟨dx, t1⟩, ⟨⟨dx2, f1⟩, f2, fa, fb, fc, k2, f3, f4, f5⟩, t3, kvs, t4, t5, t6, t7⟩ := h
  refine ⟨⟨tup g1, ga, gb, gc⟩, ⟨dx, ins t1⟩, ⟨⟨dx2, ins f1⟩, ?_, fa, fb, fc, k2, fr _ _ f3 nd.symm, f4, fun kv hm => ?_⟩, t3, kvs, fr _ _ t4 nn.symm, t5, t6, t7⟩
  · rcases f2 with (f2 | ⟨ob, f2⟩) | f2
    · exact .inl (.inl (tup f2))
    · exact .inl (.inr ⟨ob, frz f2⟩)
    · exact .inr f2
  · obtain ⟨s', p, a1, a2, bt, b1, b2⟩ := f5 kv hm
    exact ⟨s', p, a1, a2, bt, tup b1, tup b2⟩
theorem Sv.same {CT CF : Addr} {H H' : Hp} {o t f n d : Addr} {x y z k : Nat} (h : Sv K CT CF H o t f n d x y z k) (s : Same H H') : Sv K CT CF H' o t f n d x y z k := by
  obtain ⟨g, t1, fl, t3, kvs, t4, t5, t6, t7⟩ := h
  obtain ⟨dx, t1⟩ := t1
  exact ⟨g.same s, ⟨dx, s _ _ t1⟩, fl.same s, t3, kvs, s _ _ t4, t5, t6, t7⟩
theorem Sv.nrm {CT CF : Addr} {H H' : Hp} {o t f n d : Addr} {x y z k k' : Nat} (h : Sv K CT CF H o t f n d x y z k) (tl : TlAt K CT CF H' t f n o d x y z k') (b : But2 d n H H') : Sv K CT CF H' o t f n d x y z k' := by
  obtain ⟨⟨g1, ga, gb, gc⟩, ⟨dx, t1⟩, ⟨⟨dx2, f1⟩, f2, fa, fb, fc, k2, f3, f4, f5⟩, t3, kvs, t4, t5, t6, t7⟩ := h
  exact ⟨⟨b _ _ (fun q => by rw [q, f3] at g1; cases g1) (fun q => by rw [q, t4] at g1; cases g1) g1, ga, gb, gc⟩, tl⟩
theorem Sv.nes {CT CF : Addr} {H : Hp} {o t f n d p : Addr} {x y z k : Nat} (h : Sv K CT CF H o t f n d x y z k) (hp : H p = none) : p ≠ n ∧ p ≠ d := by
  obtain ⟨g, t1, ⟨_, _, _, _, _, k2, f3, _⟩, t3, kvs, t4, _⟩ := h
  exact ⟨(fun q => by rw [q, t4] at hp; cases hp), (fun q => by rw [q, f3] at hp; cases hp)⟩
theorem Sv.mono {CT CF : Addr} {H : Hp} {o t f n d : Addr} {x y z j k : Nat} (h : Sv K CT CF H o t f n d x y z j) (hk : j ≤ k) : Sv K CT CF H o t f n d x y z k := ⟨h.g, h.tl.mono hk⟩
/-- a list stands beside a Tiles -/
theorem Sv.nel {CT CF : Addr} {H : Hp} {o t f n d p : Addr} {x y z k : Nat} {l : List V} (h : Sv K CT CF H o t f n d x y z k) (hp : H p = some (.lst l)) : p ≠ n ∧ p ≠ d := by
  obtain ⟨g, t1, ⟨_, _, _, _, _, k2, f3, _⟩, t3, kvs, t4, _⟩ := h
  exact ⟨(fun q => by rw [q, t4] at hp; cases hp), (fun q => by rw [q, f3] at hp; cases hp)⟩
theorem Sv.nez {CT CF : Addr} {H : Hp} {o t f n d p : Addr} {x y z k : Nat} {l : List V} (h : Sv K CT CF H o t f n d x y z k) (hp : H p = some (.tup l)) : p ≠ n ∧ p ≠ d := by
  obtain ⟨g, t1, ⟨_, _, _, _, _, k2, f3, _⟩, t3, kvs, t4, _⟩ := h
  exact ⟨(fun q => by rw [q, t4] at hp; cases hp), (fun q => by rw [q, f3] at hp; cases hp)⟩
theorem Sv.lst {CT CF : Addr} {H H' : Hp} {o t f n d p : Addr} {x y z k : Nat} {l : List V} (h : Sv K CT CF H o t f n d x y z k) (b : But2 d n H H') (hp : H p = some (.lst l)) : H' p = some (.lst l) := b _ _ (h.nel hp).2 (h.nel hp).1 hp
theorem Sv.tup {CT CF : Addr} {H H' : Hp} {o t f n d p : Addr} {x y z k : Nat} {l : List V} (h : Sv K CT CF H o t f n d x y z k) (b : But2 d n H H') (hp : H p = some (.tup l)) : H' p = some (.tup l) := b _ _ (h.nez hp).2 (h.nez hp).1 hp
/-- a new Tiles -/
theorem sv_new {H H1 H' : Hp} {CT CF o t f n d : Addr} {x y z : Nat} (G : Og K H o x y z) (ht : H t = none) (s : Same H H1) (Tl : TlAt K CT CF H' t f n o d x y z 0) (fr : ∀ b u, H1 b = some u → b ≠ t → H' b = some u) : Sv K CT CF H' o t f n d x y z 0 :=
  ⟨⟨fr _ _ (s _ _ G.ob) (fun q => by
    have := G.ob
    rw [q, ht] at this
    cases this), G.ha, G.hb, G.hc⟩, Tl⟩

/-- the script stands, as a list that may be locked or a part of the text -/
def Scr (K : PySem.W.Frag) (H : Hp) (a : Addr) (xs : List V) : Prop := (∀ H', SqL K H' a xs) ∨ H a = some (.lst xs) ∨ ∃ o, H a = some (.frz o (.lst xs))
def Off (K : PySem.W.Frag) (a : Addr) (xs : List V) (D : Addr) : Prop := (∀ H', SqL K H' a xs) ∨ a ≠ D
theorem Scr.of {H : Hp} {a : Addr} {xs : List V} (h : SqL K H a xs) : Scr K H a xs := by
  rcases h with (h | ⟨o, h⟩) | h
  · exact .inr (.inl h)
  · exact .inr (.inr ⟨o, h⟩)
  · exact .inl fun _ => .inr h
theorem Scr.sq {H : Hp} {a : Addr} {xs : List V} (h : Scr K H a xs) : SqL K H a xs := by
  rcases h with h | h | ⟨o, h⟩
  · exact h H
  · exact .inl (.inl h)
  · exact .inl (.inr ⟨o, h⟩)
theorem Scr.off {H : Hp} {a D : Addr} {xs : List V} (h : Scr K H a xs) (hD : H D = none) : Off K a xs D := by
  rcases h with h | h | ⟨o, h⟩
  · exact .inl h
  · exact .inr fun z => by rw [z, hD] at h; cases h
  · exact .inr fun z => by rw [z, hD] at h; cases h
theorem Scr.keep {H H' : Hp} {a : Addr} {xs : List V} (h : Scr K H a xs) (f : ∀ u, H a = some u → (u = .lst xs ∨ ∃ o, u = .frz o (.lst xs)) → H' a = some u) : Scr K H' a xs := by
  rcases h with h | h | ⟨o, h⟩
  · exact .inl h
  · exact .inr (.inl (f _ h (.inl rfl)))
  · exact .inr (.inr ⟨o, f _ h (.inr ⟨o, rfl⟩)⟩)
theorem Scr.same {H H' : Hp} {a : Addr} {xs : List V} (h : Scr K H a xs) (s : Same H H') : Scr K H' a xs := h.keep fun u e _ => s _ _ e
theorem Scr.fr {H H' : Hp} {a D : Addr} {xs : List V} (h : Scr K H a xs) (n : Off K a xs D) (fr : ∀ b u, H b = some u → b ≠ D → H' b = some u) : Scr K H' a xs := by
  rcases n with n | n
  · exact .inl n
  · exact h.keep fun u e _ => fr _ _ e n
/-- orders, Tiles and script stand -/
structure Lw (K : PySem.W.Frag) (CT CF : Addr) (H : Hp) (o t f n d : Addr) (x y z k : Nat) (a : Addr) (xs : List V) : Prop where
  sv : Sv K CT CF H o t f n d x y z k
  sc : Scr K H a xs
theorem Lw.same {CT CF : Addr} {H H' : Hp} {o t f n d a : Addr} {x y z k : Nat} {xs : List V} (h : Lw K CT CF H o t f n d x y z k a xs) (s : Same H H') : Lw K CT CF H' o t f n d x y z k a xs := ⟨h.sv.same s, h.sc.same s⟩
theorem Lw.mono {CT CF : Addr} {H : Hp} {o t f n d a : Addr} {x y z k j : Nat} {xs : List V} (h : Lw K CT CF H o t f n d x y z k a xs) (hk : k ≤ j) : Lw K CT CF H o t f n d x y z j a xs := ⟨h.sv.mono hk, h.sc⟩
theorem Lw.nrm {CT CF : Addr} {H H' : Hp} {o t f n d a : Addr} {x y z k k' : Nat} {xs : List V} (h : Lw K CT CF H o t f n d x y z k a xs) (tl : TlAt K CT CF H' t f n o d x y z k') (b : But2 d n H H') : Lw K CT CF H' o t f n d x y z k' a xs := by
  refine ⟨h.sv.nrm tl b, h.sc.keep fun u e eu => ?_⟩
  obtain ⟨⟨g, t1, ⟨_, _, _, _, _, k2, f3, _⟩, t3, kvs, t4, _⟩, _⟩ := h
  refine b _ _ (fun q => ?_) (fun q => ?_) e
  · rw [q, f3] at e
    cases e
    rcases eu with eu | ⟨_, eu⟩ <;> cases eu
  · rw [q, t4] at e
    cases e
    rcases eu with eu | ⟨_, eu⟩ <;> cases eu
theorem Lw.fr {CT CF : Addr} {H H' : Hp} {o t f n d D a : Addr} {x y z k : Nat} {v : HO} {xs : List V} (h : Lw K CT CF H o t f n d x y z k a xs) (hv : (∃ acc, v = .lst acc) ∨ ∃ kvs, v = .dK kvs) (hD : H D = some v) (nn : D ≠ n) (nd : D ≠ d) (off : Off K a xs D)
    (fr : ∀ b u, H b = some u → b ≠ D → H' b = some u) : Lw K CT CF H' o t f n d x y z k a xs := ⟨h.sv.fr hv hD nn nd fr, h.sc.fr off fr⟩
/-- a list beside changes -/
theorem Lw.upd {CT CF : Addr} {H : Hp} {o t f n d D a : Addr} {x y z k : Nat} {l l' : List V} {xs : List V} (h : Lw K CT CF H o t f n d x y z k a xs) (hD : H D = some (.lst l)) (off : Off K a xs D) : Lw K CT CF (L2.upd H D (.lst l')) o t f n d x y z k a xs :=
  h.fr (.inl ⟨l, rfl⟩) hD (h.sv.nel hD).1 (h.sv.nel hD).2 off fun b u e hb => by rw [upd_ne hb]; exact e
theorem lw_new {H H1 H' : Hp} {CT CF o t f n d a : Addr} {x y z : Nat} {xs : List V} (G : Og K H o x y z) (sq : Scr K H a xs) (ht : H t = none) (s : Same H H1) (Tl : TlAt K CT CF H' t f n o d x y z 0) (fr : ∀ b u, H1 b = some u → b ≠ t → H' b = some u) : Lw K CT CF H' o t f n d x y z 0 a xs :=
  ⟨sv_new G ht s Tl fr, (sq.same s).fr (sq.off ht) fr⟩

def spMirror (K : PySem.W.Frag) (CT CF : Addr) : Sp := fun vs H Q _ => ∃ (t f n o d : Addr) (a b c k : Nat) (u : W) (l : Fin 3), vs = [.ref t, .str (wS u), .str (wS [l])] ∧ Sv K CT CF H o t f n d a b c k ∧ u.length ≤ 190 ∧ k ≤ 10000 ∧
  ∀ H', Sv K CT CF H' o t f n d a b c (k + 1) → But2 d n H H' → Q (.str (wS (nfw a b c (u ++ [l] ++ u.reverse)))) H'
theorem ok_law_mirror (T : Txt K mg cx) : FK.Has P w K mg base CX0 8 "_law_mirror" ["floor", "word", "letter"] (spMirror K cx.Tiles cx.Floor) := by
  have H_Tiles_normal := ok_Tiles_normal (P := P) (w := w) (mg := mg) (base := base) T
  refine T.d_law_mirror.ok sc_law_mirror (fun vs H Q E h => ?_) (fun f cdv A outer s H vs Q E hr h => ?_)
  · obtain ⟨t, f, n, o, d, a, b, c, k, u, l, rfl, _⟩ := h
    rfl
  · obtain ⟨t, f, n, o, d, a, b, c, k, u, l, rfl, S0, hu, hk, q⟩ := h
    refine ⟨_, (pss_one (ps_ret (FK.pe_m (E := E0) (pv 0) T.cl_Tiles H_Tiles_normal (hr.mono (by decide)) FK.pass1 (pa_cons (pe_op op_add_str (pe_op op_add_str (pv 1) (pv 2)) (FK.pe_revS (pv 1))) pa_nil)))), ?_⟩
    simp only [tSeq, tIfS, tOr, tAnd, tB, tTest, tCB, tCons, tVar, tC, tNil, tNot, tNotV, tRet, tRetN, tNext, tBreak, tOrV, tAndV, tOp, tUn, rEq, rNe, tChain, rI0, rI, rU, tAsg, gName, tDrop, tAug, ipI, tIf, tCall, tCallS, tLst, tTup, tBM, tBM0, rAppend, rExtend, rPop, rReverse, tyV, rIxL, rIxT, rIxS, rIsB, rNotB, L2.start, List.map_cons, List.map_nil, List.length_cons, List.length_nil, List.replicate, List.cons_append, List.nil_append, List.append_nil, List.getElem?_cons_zero, List.getElem?_cons_succ, List.set_cons_zero, List.set_cons_succ, Nat.reduceAdd, Nat.reduceSub, Option.some.injEq, exists_eq_left', exists_eq_left, V.int.injEq, V.bl.injEq, V.str.injEq, V.ref.injEq, List.cons.injEq, and_true, true_and, and_assoc, reduceCtorEq, false_and, exists_false, or_false, false_or, exists_and_left, exists_const, scal, Int.reduceLT, Int.reduceLE, Int.reduceSub, Int.reduceAdd, Int.reduceNeg, if_true, if_false, tMeth, FK.tRevS]
    obtain ⟨dx, t1⟩ := S0.tl.ob
    refine ⟨dx, _, t1, fldsT_no _ _ (by decide +kernel) (by decide +kernel), by rw [wS_len, wS_len]; exact zl _ (by rw [List.length_singleton]; omega), zw (by omega), ?_⟩
    rw [wS_rev, wS_app, wS_app]
    exact ⟨by rw [wS_len, wS_len]; exact zl _ (by simp only [List.length_append, List.length_singleton, List.length_reverse]; omega), t, f, n, o, d, a, b, c, k, u ++ [l] ++ u.reverse, rfl, S0.tl, by simp only [List.length_append, List.length_singleton, List.length_reverse]; omega, hk, fun H6 Tl b2 => q H6 (S0.nrm Tl b2) b2⟩

theorem But2.refl {d n : Addr} {H : Hp} : But2 d n H H := fun _ _ _ _ e => e
theorem Sv.updL {CT CF : Addr} {H : Hp} {o t f n d L : Addr} {x y z k : Nat} {l l' : List V} (h : Sv K CT CF H o t f n d x y z k) (hL : H L = some (.lst l)) : Sv K CT CF (L2.upd H L (.lst l')) o t f n d x y z k :=
  h.fr (.inl ⟨l, rfl⟩) hL (h.nel hL).1 (h.nel hL).2 fun b u e hb => by rw [upd_ne hb]; exact e
theorem But2.updN {d n L : Addr} {H H' : Hp} {v : HO} (b : But2 d n H H') (hL : H L = none) : But2 d n H (L2.upd H' L v) := fun x u h1 h2 e => by
  rw [upd_ne (fun z => by rw [z, hL] at e; cases e)]
  exact b x u h1 h2 e
def spLCrossed (K : PySem.W.Frag) (CT CF : Addr) : Sp := fun vs H Q _ => ∃ (t f n o d : Addr) (a b c k : Nat) (u p : W), vs = [.ref t, .str (wS u), .str (wS p)] ∧ Sv K CT CF H o t f n d a b c k ∧ u.length ≤ 60 ∧ p.length ≤ 60 ∧ k ≤ 5000 ∧
  ∀ L H', H L = none → H' L = some (.lst (((wlsC (nfw a b c) u p).map wS).map V.str)) → Sv K CT CF H' o t f n d a b c (k + 2 * p.length) → But2 d n H H' → Q (.ref L) H'
theorem ok_law_crossed (T : Txt K mg cx) : FK.Has P w K mg base CX0 9 "_law_crossed" ["floor", "word", "path"] (spLCrossed K cx.Tiles cx.Floor) := by
  have H_Tiles_normal := ok_Tiles_normal (P := P) (w := w) (mg := mg) (base := base) T
  have H_law_mirror := ok_law_mirror (P := P) (w := w) (base := base) T
  refine T.d_law_crossed.ok sc_law_crossed (fun vs H Q E h => ?_) (fun f cdv A outer s H vs Q E hr h => ?_)
  · obtain ⟨t, f, n, o, d, a, b, c, k, u, p, rfl, _⟩ := h
    rfl
  · obtain ⟨t, f, n, o, d, a, b, c, k, u, p, rfl, S0, hu, hp, hk, q⟩ := h
    refine ⟨_, (pss_cons (ps_set (i := 3) sc_law_crossed.nd rfl (Or.inl rfl) (by exact (pe_lst pa_nil)))
  (pss_cons (ps_set (i := 4) sc_law_crossed.nd rfl (Or.inl rfl) (by exact (pv 1)))
  (pss_cons (ps_for PassesOwn.never rfl (pi_str (pv 2)) (pg_name (i := 5) sc_law_crossed.nd rfl (Or.inl rfl))
  (pss_cons (ps_expr (pe_bm PySem.F.plainAttrs_list PySem.F.slot_list_append PySem.F.type_list_append mt_append (pv 3) (pa_cons (FK.pe_h (E := E0) H_law_mirror (hr.mono (by decide)) pass0 (pa_cons (pv 0) (pa_cons (pv 4) (pa_cons (pv 5) pa_nil)))) pa_nil)))
  (pss_one (ps_set (i := 4) sc_law_crossed.nd rfl (Or.inl rfl) (by exact (FK.pe_m (E := E0) (pv 0) T.cl_Tiles H_Tiles_normal (hr.mono (by decide)) FK.pass1 (pa_cons (pe_op op_add_str (pv 4) (pv 5)) pa_nil)))))))
  (pss_one (ps_ret (pv 3)))))), ?_⟩
    simp only [tSeq, tIfS, tOr, tAnd, tB, tTest, tCB, tCons, tVar, tC, tNil, tNot, tNotV, tRet, tRetN, tNext, tBreak, tOrV, tAndV, tOp, tUn, rEq, rNe, tChain, rI0, rI, rU, tAsg, gName, tDrop, tAug, ipI, tIf, tCall, tCallS, tLst, tTup, tBM, tBM0, rAppend, rExtend, rPop, rReverse, tyV, rIxL, rIxT, rIxS, rIsB, rNotB, L2.start, List.map_cons, List.map_nil, List.length_cons, List.length_nil, List.replicate, List.cons_append, List.nil_append, List.append_nil, List.getElem?_cons_zero, List.getElem?_cons_succ, List.set_cons_zero, List.set_cons_succ, Nat.reduceAdd, Nat.reduceSub, Option.some.injEq, exists_eq_left', exists_eq_left, V.int.injEq, V.bl.injEq, V.str.injEq, V.ref.injEq, List.cons.injEq, and_true, true_and, and_assoc, reduceCtorEq, false_and, exists_false, or_false, false_or, exists_and_left, exists_const, scal, Int.reduceLT, Int.reduceLE, Int.reduceSub, Int.reduceAdd, Int.reduceNeg, if_true, if_false]
    have G := S0.g
    have N := fun (w : W) (hw : w.length ≤ 500) => nfw_ok (a := a) (b := b) (c := c) G.ha G.hb G.hc (w := w) (by omega)
    have Nl : ∀ (w : W), w.length ≤ 500 → (nfw a b c w).length ≤ w.length := fun w hw => by
      rw [(N w hw).2.2.1]
      exact ln_self w
    have Nc : ∀ {u v : W}, u.length ≤ 500 → v.length ≤ 500 → Eqv (om a b c) u v → nfw a b c u = nfw a b c v := fun hu hv h => nfw_congr G.ha G.hb G.hc hu hv h
    refine ⟨Nat.zero_le _, fun L hL => ?_⟩
    have hps : (wS p).cps.size = p.length := wS_len p
    refine FK.rd_for (J := Its (wS p)) (H1 := upd H L (.lst [])) (fun R r => ⟨_, rfl, _, rfl, r⟩) walk_str
      (fun j σ H' => ∃ (h : W) (v5 : Option V), σ = [some (.ref t), some (.str (wS (u))), some (.str (wS (p))), some (.ref L), some (.str (wS (h))), v5] ∧ Eqv (om a b c) (u ++ p.take j) h ∧ h.length ≤ u.length + j ∧ H' L = some (.lst (((wls (nfw a b c) u p j).map wS).map V.str)) ∧ Sv K cx.Tiles cx.Floor H' o t f n d a b c (k + 2 * j) ∧ But2 d n H H')
      ⟨u, none, rfl, by rw [List.take_zero, List.append_nil]; exact .refl _, by omega, upd_same, S0.same (FK.same_new hL), But2.of (FK.But.of (FK.same_new hL))⟩ (fun _ _ _ _ _ => trivial) ?_ ?_
    · rintro j x' σ Ha Hb hj ⟨h, v5, rfl, eh, lh, eL, Sa, ba⟩ ⟨rfl, ch, hc, rfl⟩
      obtain ⟨l0, hl0, el0⟩ := wS_at hc
      rw [el0]
      rw [hps] at hj
      simp only [tSeq, tIfS, tOr, tAnd, tB, tTest, tCB, tCons, tVar, tC, tNil, tNot, tNotV, tRet, tRetN, tNext, tBreak, tOrV, tAndV, tOp, tUn, rEq, rNe, tChain, rI0, rI, rU, tAsg, gName, tDrop, tAug, ipI, tIf, tCall, tCallS, tLst, tTup, tBM, tBM0, rAppend, rExtend, rPop, rReverse, tyV, rIxL, rIxT, rIxS, rIsB, rNotB, L2.start, List.map_cons, List.map_nil, List.length_cons, List.length_nil, List.replicate, List.cons_append, List.nil_append, List.append_nil, List.getElem?_cons_zero, List.getElem?_cons_succ, List.set_cons_zero, List.set_cons_succ, Nat.reduceAdd, Nat.reduceSub, Option.some.injEq, exists_eq_left', exists_eq_left, V.int.injEq, V.bl.injEq, V.str.injEq, V.ref.injEq, List.cons.injEq, and_true, true_and, and_assoc, reduceCtorEq, false_and, exists_false, or_false, false_or, exists_and_left, exists_const, scal, Int.reduceLT, Int.reduceLE, Int.reduceSub, Int.reduceAdd, Int.reduceNeg, if_true, if_false, tMeth]
      have ltk : (p.take j).length ≤ 60 := by rw [List.length_take]; omega
      refine ⟨.inl ⟨_, SqL.of eL⟩, t, f, n, o, d, a, b, c, _, h, l0, rfl, Sa, by omega, by omega, fun Hc Sc bc => ⟨_, Sa.lst bc eL, ?_, ?_⟩⟩
      · rw [List.length_map, List.length_map, wls_len]
        exact Nat.lt_of_le_of_lt (show j ≤ 1000 by omega) (by decide)
      have eLc : Hc L = _ := Sa.lst bc eL
      have ew : nfw a b c (h ++ [l0] ++ h.reverse) = wlAt (nfw a b c) u p j := by
        unfold wlAt
        have e3 : (p.drop j).take 1 = [l0] := by
          rw [ltr_of hj]
          rw [List.getElem?_eq_getElem hj] at hl0
          rw [Option.some.inj hl0]
        rw [e3]
        exact Nc (by simp only [List.length_append, List.length_reverse, List.length_singleton]; omega) (by simp only [List.length_append, List.length_reverse, List.length_singleton]; omega) ((eh.symm.right _).mul eh.symm.rev)
      rw [ew]
      have eU : (((wls (nfw a b c) u p j).map wS).map V.str) ++ [V.str (wS (wlAt (nfw a b c) u p j))] = (((wls (nfw a b c) u p (j + 1)).map wS).map V.str) := by
        rw [wls_succ, List.map_append, List.map_append]
        rfl
      rw [eU]
      have Sd : Sv K cx.Tiles cx.Floor (upd Hc L (.lst (((wls (nfw a b c) u p (j + 1)).map wS).map V.str))) o t f n d a b c (k + 2 * j + 1) := Sc.updL eLc
      have bd := (ba.trans bc).updN (v := .lst (((wls (nfw a b c) u p (j + 1)).map wS).map V.str)) hL
      obtain ⟨dx, t1⟩ := Sd.tl.ob
      refine ⟨dx, _, t1, fldsT_no _ _ (by decide +kernel) (by decide +kernel), by rw [wS_len, wS_len]; exact zl _ (by rw [List.length_singleton]; omega), t, f, n, o, d, a, b, c, _, h ++ [l0], by rw [wS_app], Sd.tl, by rw [List.length_append, List.length_singleton]; omega, by omega, fun He Tl b2 => ⟨_, rfl, ?_, ?_, Sd.lst b2 upd_same, Sd.nrm Tl b2, bd.trans b2⟩⟩
      · have h1 := (N (h ++ [l0]) (by rw [List.length_append, List.length_singleton]; omega)).1
        have e3 : u ++ p.take j ++ [l0] = u ++ p.take (j + 1) := by
          rw [List.append_assoc, List.take_add_one, hl0]
          rfl
        have h2 := eh.right [l0]
        rw [e3] at h2
        exact h2.trans h1
      · have := Nl (h ++ [l0]) (by rw [List.length_append, List.length_singleton]; omega)
        rw [List.length_append, List.length_singleton] at this
        omega
    · rintro σ Ha ⟨h, v5, rfl, eh, lh, eL, Sa, ba⟩
      rw [hps] at eL Sa
      simp only [tSeq, tIfS, tOr, tAnd, tB, tTest, tCB, tCons, tVar, tC, tNil, tNot, tNotV, tRet, tRetN, tNext, tBreak, tOrV, tAndV, tOp, tUn, rEq, rNe, tChain, rI0, rI, rU, tAsg, gName, tDrop, tAug, ipI, tIf, tCall, tCallS, tLst, tTup, tBM, tBM0, rAppend, rExtend, rPop, rReverse, tyV, rIxL, rIxT, rIxS, rIsB, rNotB, L2.start, List.map_cons, List.map_nil, List.length_cons, List.length_nil, List.replicate, List.cons_append, List.nil_append, List.append_nil, List.getElem?_cons_zero, List.getElem?_cons_succ, List.set_cons_zero, List.set_cons_succ, Nat.reduceAdd, Nat.reduceSub, Option.some.injEq, exists_eq_left', exists_eq_left, V.int.injEq, V.bl.injEq, V.str.injEq, V.ref.injEq, List.cons.injEq, and_true, true_and, and_assoc, reduceCtorEq, false_and, exists_false, or_false, false_or, exists_and_left, exists_const, scal, Int.reduceLT, Int.reduceLE, Int.reduceSub, Int.reduceAdd, Int.reduceNeg, if_true, if_false]
      exact q L Ha hL eL Sa ba

def spKey : Sp := fun vs H Q _ => ∃ u : W, vs = [.str (wS u)] ∧ u.length ≤ 2000 ∧ ∀ p H', Same H H' → H p = none → H' p = some (.tup [.int (u.length : Nat), .str (wS u)]) → Q (.ref p) H'
theorem ok_law_key (T : Txt K mg cx) : FK.Has P w K mg base CX0 1 "_law_key" ["word"] spKey := by
  refine T.d_law_key.ok sc_law_key (fun vs H Q E h => ?_) (fun f cdv A outer s H vs Q E hr h => ?_)
  · obtain ⟨u, rfl, _⟩ := h
    rfl
  · obtain ⟨u, rfl, hu, q⟩ := h
    refine ⟨_, (pss_one (ps_ret (pe_tup (pa_cons (pe_callB call_len_str (by rfl) T.n_len PySem.boot_len (pa_cons (pv 0) pa_nil)) (pa_cons (pv 0) pa_nil))))), ?_⟩
    simp only [tSeq, tIfS, tOr, tAnd, tB, tTest, tCB, tCons, tVar, tC, tNil, tNot, tNotV, tRet, tRetN, tNext, tBreak, tOrV, tAndV, tOp, tUn, rEq, rNe, tChain, rI0, rI, rU, tAsg, gName, tDrop, tAug, ipI, tIf, tCall, tCallS, tLst, tTup, tBM, tBM0, rAppend, rExtend, rPop, rReverse, tyV, rIxL, rIxT, rIxS, rIsB, rNotB, L2.start, List.map_cons, List.map_nil, List.length_cons, List.length_nil, List.replicate, List.cons_append, List.nil_append, List.append_nil, List.getElem?_cons_zero, List.getElem?_cons_succ, List.set_cons_zero, List.set_cons_succ, Nat.reduceAdd, Nat.reduceSub, Option.some.injEq, exists_eq_left', exists_eq_left, V.int.injEq, V.bl.injEq, V.str.injEq, V.ref.injEq, List.cons.injEq, and_true, true_and, and_assoc, reduceCtorEq, false_and, exists_false, or_false, false_or, exists_and_left, exists_const, scal, Int.reduceLT, Int.reduceLE, Int.reduceSub, Int.reduceAdd, Int.reduceNeg, if_true, if_false]
    exact ⟨zw (by omega), by decide, fun p hp => q p _ (FK.same_new hp) hp (by rw [upd_same, wS_len])⟩
theorem lc_call {K : PySem.W.Frag} {r : List V → Hp → VK → Prop} {t : TE} {g : TG} {tt : L2.TT} {te : TE} {vs : List Nat} {σ : L2.St} {H : Hp} {Q : VK}
    (h : t σ H fun x H1 => r [x] H1 fun v H2 => ∃ a, v = .ref a ∧ (∃ xs, SqL K H2 a xs) ∧ tLc (fun _ _ R => R (Itl K a) H2) g tt te vs σ H2 Q) : tLc (iList K (tCB r (tCons t tNil))) g tt te vs σ H Q := h
/-- new pairs of lengths and words, one after the other -/
def MkP (us : List W) (H : Hp) (j : Nat) (acc : List V) (H' : Hp) : Prop := Same H H' ∧ ∃ ts : List Addr, acc = ts.map V.ref ∧ ts.length = j ∧ ∀ (i : Nat) (t : Addr), ts[i]? = some t → ∃ u, us[i]? = some u ∧ H' t = some (.tup [.int (u.length : Nat), .str (wS u)])
theorem MkP.new {us : List W} {H : Hp} {D : Addr} (hD : H D = none) : MkP us H 0 [] (upd H D (.lst [])) := ⟨FK.same_new hD, [], rfl, rfl, fun i t e => by cases i <;> cases e⟩
open Classical in
/-- the word of a pair -/
noncomputable def pW (H : Hp) (v : V) : W := if h : ∃ u t, v = V.ref t ∧ H t = some (.tup [.int ((u : W).length : Nat), .str (wS u)]) then h.choose else []
theorem pW_at {H : Hp} {t : Addr} {u : W} (h : H t = some (.tup [.int (u.length : Nat), .str (wS u)])) : pW H (.ref t) = u := by
  have hh : ∃ u t', V.ref t = V.ref t' ∧ H t' = some (.tup [.int ((u : W).length : Nat), .str (wS u)]) := ⟨u, t, rfl, h⟩
  unfold pW
  rw [dif_pos hh]
  obtain ⟨t', e1, e2⟩ := hh.choose_spec
  cases e1
  rw [h] at e2
  have e3 := HO.tup.inj (Option.some.inj e2)
  injection e3 with _ e4
  injection e4 with e5 _
  exact (wS_inj (V.str.inj e5)).symm
def spSorted (K : PySem.W.Frag) : Sp := fun vs H Q _ => ∃ (l : Addr) (us : List W), vs = [.ref l] ∧ H l = some (.lst ((us.map wS).map V.str)) ∧ us.length ≤ 1000 ∧ (∀ u ∈ us, u.length ≤ 500) ∧
  ∀ (ys : List W) p H', ys.Perm us → ys.Pairwise ole → H p = none → H' p = some (.lst ((ys.map wS).map V.str)) → Same H H' → Q (.ref p) H'
theorem ok_law_sorted (T : Txt K mg cx) : FK.Has P w K mg base CX0 2 "_law_sorted" ["tiles"] (spSorted K) := by
  have H_law_key := ok_law_key (P := P) (w := w) (base := base) T
  refine T.d_law_sorted.ok sc_law_sorted (fun vs H Q E h => ?_) (fun f cdv A outer s H vs Q E hr h => ?_)
  · obtain ⟨l, us, rfl, _⟩ := h
    rfl
  · obtain ⟨l, us, rfl, hl, hn, hb, q⟩ := h
    refine ⟨_, (pss_one (ps_ret (pe_lc (own := [("key", 1)]) (g := gName 1) (tt := tYes) rfl sc_law_sorted.nd (pi_list (pe_callB FK.cr_sortIS (by rfl) T.n_sorted (by decide +kernel) (pa_cons (pe_lc (own := [("tile", 2)]) (g := gName 2) (tt := tYes) rfl sc_law_sorted.nd (pi_list (pv 0)) (blkOk_by (own := [("tile", 2)]) (N := ["tiles", "key", "tile"]) (sc := defScope s_law_sorted) (by decide +kernel)) (fun _ _ _ _ _ => (pg_name (i := 2) sc_law_sorted.nd rfl (Or.inl rfl))) (fun _ _ _ _ _ => pts_nil) (fun _ _ _ _ _ => (FK.pe_h (E := E0) H_law_key (hr.mono (by decide)) pass0 (pa_cons (pv 2) pa_nil)))) pa_nil))) (blkOk_by (own := [("key", 1)]) (N := ["tiles", "key", "tile"]) (sc := defScope s_law_sorted) (by decide +kernel)) (fun _ _ _ _ _ => (pg_name (i := 1) sc_law_sorted.nd rfl (Or.inl rfl))) (fun _ _ _ _ _ => pts_nil) (fun _ _ _ _ _ => (pe_ix (r := rIxT K) ix_tup (pv 1) pe_int (fun _ _ => rfl)))))), ?_⟩
    simp only [tSeq, tIfS, tOr, tAnd, tB, tTest, tCB, tCons, tVar, tC, tNil, tNot, tNotV, tRet, tRetN, tNext, tBreak, tOrV, tAndV, tOp, tUn, rEq, rNe, tChain, rI0, rI, rU, tAsg, gName, tDrop, tAug, ipI, tIf, tCall, tCallS, tLst, tTup, tBM, tBM0, rAppend, rExtend, rPop, rReverse, tyV, rIxL, rIxT, rIxS, rIsB, rNotB, L2.start, List.map_cons, List.map_nil, List.length_cons, List.length_nil, List.replicate, List.cons_append, List.nil_append, List.append_nil, List.getElem?_cons_zero, List.getElem?_cons_succ, List.set_cons_zero, List.set_cons_succ, Nat.reduceAdd, Nat.reduceSub, Option.some.injEq, exists_eq_left', exists_eq_left, V.int.injEq, V.bl.injEq, V.str.injEq, V.ref.injEq, List.cons.injEq, and_true, true_and, and_assoc, reduceCtorEq, false_and, exists_false, or_false, false_or, exists_and_left, exists_const, scal, Int.reduceLT, Int.reduceLE, Int.reduceSub, Int.reduceAdd, Int.reduceNeg, if_true, if_false]
    have ok0 : ∀ H', Same H H' → SqL K H' l ((us.map wS).map V.str) := fun H' s' => SqL.of (s' _ _ hl)
    have n0 : (((us.map wS).map V.str)).length = us.length := by simp
    refine lc_call ?_
    refine FK.rd_lc (J := Itl K l) (H1 := H) (fun R r => ⟨_, rfl, l, rfl, ⟨_, SqL.of hl⟩, r⟩) walk_list
      (MkP us H) (fun D hD => MkP.new hD) ?_ ?_ (by rw [n0]; exact Nat.lt_of_le_of_lt hn (by decide)) (fun _ => rfl) ?_ ?_
    · rintro D i acc y H' hD hD2 ⟨s1, ts, e1, e2, e3⟩
      refine ⟨FK.same_at hD s1, ts, e1, e2, fun i t e => ?_⟩
      obtain ⟨u, h1, h2⟩ := e3 i t e
      exact ⟨u, h1, by rw [upd_ne (fun z => by rw [z, hD2] at h2; cases h2)]; exact h2⟩
    · rintro i acc H' _ ⟨s1, _⟩
      exact ok0 H' s1
    · rintro D j x acc H1 H2 R hD hj la ⟨s1, ts, rfl, e2, e3⟩ hD2 ⟨rfl, hx⟩ go
      rw [List.getElem?_map, List.getElem?_map] at hx
      obtain ⟨u, hu⟩ : ∃ u, us[j]? = some u := by
        cases e : us[j]? with
        | none => rw [e] at hx; cases hx
        | some u => exact ⟨u, rfl⟩
      rw [hu] at hx
      obtain rfl : V.str (wS u) = x := Option.some.inj hx
      rw [show (wipe [some (.ref l), none, none] [2]).set 2 (some (V.str (wS u))) = [some (.ref l), none, some (V.str (wS u))] from rfl]
      simp only [tSeq, tIfS, tOr, tAnd, tB, tTest, tCB, tCons, tVar, tC, tNil, tNot, tNotV, tRet, tRetN, tNext, tBreak, tOrV, tAndV, tOp, tUn, rEq, rNe, tChain, rI0, rI, rU, tAsg, gName, tDrop, tAug, ipI, tIf, tCall, tCallS, tLst, tTup, tBM, tBM0, rAppend, rExtend, rPop, rReverse, tyV, rIxL, rIxT, rIxS, rIsB, rNotB, L2.start, List.map_cons, List.map_nil, List.length_cons, List.length_nil, List.replicate, List.cons_append, List.nil_append, List.append_nil, List.getElem?_cons_zero, List.getElem?_cons_succ, List.set_cons_zero, List.set_cons_succ, Nat.reduceAdd, Nat.reduceSub, Option.some.injEq, exists_eq_left', exists_eq_left, V.int.injEq, V.bl.injEq, V.str.injEq, V.ref.injEq, List.cons.injEq, and_true, true_and, and_assoc, reduceCtorEq, false_and, exists_false, or_false, false_or, exists_and_left, exists_const, scal, Int.reduceLT, Int.reduceLE, Int.reduceSub, Int.reduceAdd, Int.reduceNeg, if_true, if_false]
      have lu : u.length ≤ 500 := hb u (List.mem_of_getElem? hu)
      refine ⟨u, rfl, by omega, fun p H5 s5 hp hp5 => go _ H5 (s5 _ _ hD2) ⟨s1.trans s5, ts ++ [p], by rw [List.map_append]; rfl, by rw [List.length_append, e2]; rfl, fun i t e => ?_⟩⟩
      rcases Nat.lt_or_ge i ts.length with c | c
      · rw [List.getElem?_append_left c] at e
        obtain ⟨u', h1, h2⟩ := e3 i t e
        exact ⟨u', h1, s5 _ _ h2⟩
      · rw [List.getElem?_append_right c] at e
        have ei : i = ts.length := by
          have := (List.getElem?_eq_some_iff.mp e).1
          simp at this
          omega
        subst ei
        rw [Nat.sub_self] at e
        obtain rfl : p = t := by simpa using e
        exact ⟨u, by rw [e2]; exact hu, hp5⟩
    · rintro D acc H1 hD la ⟨s1, ts, rfl, e2, e3⟩ hD2
      have ltu : ts.length = us.length := by rw [e2, n0]
      have kk : ts.map (fun t => pW H1 (.ref t)) = us := by
        apply List.ext_getElem?
        intro i
        rw [List.getElem?_map]
        cases e : ts[i]? with
        | none =>
          rw [List.getElem?_eq_none_iff] at e
          exact (List.getElem?_eq_none_iff.mpr (by omega)).symm
        | some t =>
          obtain ⟨u, h1, h2⟩ := e3 i t e
          rw [h1, Option.map_some, pW_at h2]
      have at' : ∀ x ∈ ts.map V.ref, ∃ t, x = V.ref t ∧ H1 t = some (.tup [.int ((pW H1 x).length : Nat), .str (wS (pW H1 x))]) := fun x hx => by
        obtain ⟨t, ht, rfl⟩ := List.mem_map.mp hx
        obtain ⟨i, hi⟩ := List.mem_iff_getElem?.mp ht
        obtain ⟨u, h1, h2⟩ := e3 i t hi
        exact ⟨t, rfl, by rw [pW_at h2]; exact h2⟩
      refine ⟨D, ts.map V.ref, fun v => (((pW H1 v).length : Nat), wS (pW H1 v)), rfl, SqL.of hD2, at', fun ys p pm pw hp => ⟨p, rfl, ⟨_, SqL.of upd_same⟩, ?_⟩⟩
      have pmW : (ys.map (pW H1)).Perm us := by
        have h := pm.map (pW H1)
        rw [List.map_map] at h
        rw [← kk]
        exact h
      have pwW : (ys.map (pW H1)).Pairwise ole := by
        refine List.pairwise_map.mpr (pw.imp fun {x y} h => ?_)
        rcases FK.lexS_no.mp h with ⟨c, d⟩ | ⟨c, d⟩
        · have c : (pW H1 x).length = (pW H1 y).length := by
            have : (((pW H1 y).length : Nat) : Int) = ((pW H1 x).length : Nat) := c
            omega
          exact .inr ⟨c, lx_lt c d⟩
        · have c : ¬ (((pW H1 y).length : Nat) : Int) = ((pW H1 x).length : Nat) := c
          have d : ¬ (((pW H1 y).length : Nat) : Int) < ((pW H1 x).length : Nat) := d
          exact .inl (by omega)
      have ly : ys.length = us.length := by rw [← pmW.length_eq, List.length_map]
      have hpD : p ≠ D := fun z => by rw [z, hD2] at hp; cases hp
      have eP : ∀ H', Same (upd H1 p (.lst ys)) H' → SqL K H' p ys := fun H' s' => SqL.of (s' _ _ upd_same)
      refine fun D2 hD3 => ?_
      refine lc_it (walk_list (K := K) (a := p) (xs := ys)) (fun j H' => Same (upd H1 p (.lst ys)) H' ∧ H' D2 = some (.lst ((((ys.take j).map (pW H1)).map wS).map V.str)))
        ⟨FK.same_new hD3, upd_same⟩ (fun j H' _ z => eP H' z.1) ?_ ?_
      · rintro j x H3 H4 hj ⟨s3, e4⟩ ⟨rfl, hx⟩
        obtain ⟨t, rfl, ht⟩ := at' x (pm.mem_iff.mp (List.mem_of_getElem? hx))
        have ht3 : H4 t = some (.tup [.int ((pW H1 (.ref t)).length : Nat), .str (wS (pW H1 (.ref t)))]) := s3 _ _ (FK.same_new hp _ _ ht)
        refine ⟨rfl, ?_⟩
        simp only [tSeq, tIfS, tOr, tAnd, tB, tTest, tCB, tCons, tVar, tC, tNil, tNot, tNotV, tRet, tRetN, tNext, tBreak, tOrV, tAndV, tOp, tUn, rEq, rNe, tChain, rI0, rI, rU, tAsg, gName, tDrop, tAug, ipI, tIf, tCall, tCallS, tLst, tTup, tBM, tBM0, rAppend, rExtend, rPop, rReverse, tyV, rIxL, rIxT, rIxS, rIsB, rNotB, L2.start, List.map_cons, List.map_nil, List.length_cons, List.length_nil, List.replicate, List.cons_append, List.nil_append, List.append_nil, List.getElem?_cons_zero, List.getElem?_cons_succ, List.set_cons_zero, List.set_cons_succ, Nat.reduceAdd, Nat.reduceSub, Option.some.injEq, exists_eq_left', exists_eq_left, V.int.injEq, V.bl.injEq, V.str.injEq, V.ref.injEq, List.cons.injEq, and_true, true_and, and_assoc, reduceCtorEq, false_and, exists_false, or_false, false_or, exists_and_left, exists_const, scal, Int.reduceLT, Int.reduceLE, Int.reduceSub, Int.reduceAdd, Int.reduceNeg, if_true, if_false, wipe]
        have et : ys.take (j + 1) = ys.take j ++ [V.ref t] := by rw [List.take_add_one, hx]; rfl
        refine iteT (B := Same (upd H1 p (.lst ys)) H4 ∧ H4 D2 = some (.lst ((((ys.take (j + 1)).map (pW H1)).map wS).map V.str))) ?_
        refine ⟨_, SqT.of ht3, _, atI_nat (j := 1) rfl, _, e4, ?_, FK.same_at hD3 s3, ?_⟩
        · rw [List.length_map, List.length_map, List.length_map, List.length_take]
          exact Nat.lt_of_le_of_lt (Nat.min_le_right _ _) (Nat.lt_of_le_of_lt (show ys.length ≤ 1000 by omega) (by decide))
        · rw [upd_same, et, List.map_append, List.map_append, List.map_append]
          rfl
      · rintro H3 ⟨s3, e4⟩
        rw [List.take_length] at e4
        refine q (ys.map (pW H1)) D2 H3 pmW pwW ?_ e4 ((s1.trans (FK.same_new hp)).trans s3)
        exact back (s1.trans (FK.same_new hp)) hD3

def spLParting (K : PySem.W.Frag) (CT CF : Addr) : Sp := fun vs H Q _ => ∃ (t f n o d l : Addr) (a b c k : Nat) (us : List W) (u0 : W), vs = [.ref t, .ref l] ∧ Sv K CT CF H o t f n d a b c k ∧ H l = some (.lst ((us.map wS).map V.str)) ∧ us[0]? = some u0 ∧ us.length ≤ 10 ∧ (∀ u ∈ us, u.length ≤ 20) ∧ k ≤ 1000 ∧
  ∀ (ws : List W) L H', ws.Nodup → ws.length ≤ 1000 → (∀ y, y ∈ ws ↔ ∃ u ∈ us, y ∈ wlsC (nfw a b c) u0 (nfw a b c (u0.reverse ++ u))) → H L = none → H' L = some (.lst ((ws.map wS).map V.str)) → Sv K CT CF H' o t f n d a b c (k + 1000) → But2 d n H H' → Q (.ref L) H'
theorem ok_law_parting (T : Txt K mg cx) : FK.Has P w K mg base CX0 10 "_law_parting" ["floor", "words"] (spLParting K cx.Tiles cx.Floor) := by
  have H_Tiles_normal := ok_Tiles_normal (P := P) (w := w) (mg := mg) (base := base) T
  have H_law_crossed := ok_law_crossed (P := P) (w := w) (base := base) T
  refine T.d_law_parting.ok sc_law_parting (fun vs H Q E h => ?_) (fun f cdv A outer s H vs Q E hr h => ?_)
  · obtain ⟨t, f, n, o, d, l, a, b, c, k, us, u0, rfl, _⟩ := h
    rfl
  · obtain ⟨t, f, n, o, d, l, a, b, c, k, us, u0, rfl, S0, hL, h0, ln, hu, hk, q⟩ := h
    refine ⟨_, (pss_cons (ps_set (i := 2) sc_law_parting.nd rfl (Or.inr rfl) (by exact (pe_lst pa_nil)))
  (pss_cons (ps_for PassesOwn.never rfl (pi_list (pv 1)) (pg_name (i := 3) sc_law_parting.nd rfl (Or.inl rfl))
  (pss_cons (ps_set (i := 4) sc_law_parting.nd rfl (Or.inl rfl) (by exact (FK.pe_m (E := E0) (pv 0) T.cl_Tiles H_Tiles_normal (hr.mono (by decide)) FK.pass1 (pa_cons (pe_op op_add_str (FK.pe_revS (pe_ix (r := rIxL K) ix_list (pv 1) pe_int (fun _ _ => rfl))) (pv 3)) pa_nil))))
  (pss_one (ps_set (i := 2) sc_law_parting.nd rfl (Or.inr rfl) (by exact (pe_op op_cat (pv 2) (pe_lc (own := [("wall", 5)]) (g := gName 5)  rfl sc_law_parting.nd (pi_list (FK.pe_h (E := E0) H_law_crossed (hr.mono (by decide)) pass0 (pa_cons (pv 0) (pa_cons (pe_ix (r := rIxL K) ix_list (pv 1) pe_int (fun _ _ => rfl)) (pa_cons (pv 4) pa_nil))))) (blkOk_by (own := [("wall", 5)]) (N := ["floor", "words", "walls", "word", "path", "wall"]) (sc := defScope s_law_parting) (by decide +kernel)) (fun _ _ _ _ _ => (pg_name (i := 5) sc_law_parting.nd rfl (Or.inl rfl))) (fun _ _ _ _ _ => (pts_one (pt_cmpR (show OpR _ (compareOp .NotIn) (rIn K true) from op_notIn_seq) (pv 5) (pv 2) (by rfl)))) (fun _ _ _ _ _ => (pv 5)))))))))
  (pss_one (ps_ret (pv 2))))), ?_⟩
    simp only [tSeq, tIfS, tOr, tAnd, tB, tTest, tCB, tCons, tVar, tC, tNil, tNot, tNotV, tRet, tRetN, tNext, tBreak, tOrV, tAndV, tOp, tUn, rEq, rNe, tChain, rI0, rI, rU, tAsg, gName, tDrop, tAug, ipI, tIf, tCall, tCallS, tLst, tTup, tBM, tBM0, rAppend, rExtend, rPop, rReverse, tyV, rIxL, rIxT, rIxS, rIsB, rNotB, L2.start, List.map_cons, List.map_nil, List.length_cons, List.length_nil, List.replicate, List.cons_append, List.nil_append, List.append_nil, List.getElem?_cons_zero, List.getElem?_cons_succ, List.set_cons_zero, List.set_cons_succ, Nat.reduceAdd, Nat.reduceSub, Option.some.injEq, exists_eq_left', exists_eq_left, V.int.injEq, V.bl.injEq, V.str.injEq, V.ref.injEq, List.cons.injEq, and_true, true_and, and_assoc, reduceCtorEq, false_and, exists_false, or_false, false_or, exists_and_left, exists_const, scal, Int.reduceLT, Int.reduceLE, Int.reduceSub, Int.reduceAdd, Int.reduceNeg, if_true, if_false]
    have G := S0.g
    have N := fun (w : W) (hw : w.length ≤ 500) => nfw_ok (a := a) (b := b) (c := c) G.ha G.hb G.hc (w := w) (by omega)
    have Nl : ∀ (w : W), w.length ≤ 500 → (nfw a b c w).length ≤ w.length := fun w hw => by
      rw [(N w hw).2.2.1]
      exact ln_self w
    have lu0 := hu u0 (List.mem_of_getElem? h0)
    have lL : ((us.map wS).map V.str).length = us.length := by simp
    refine ⟨Nat.zero_le _, fun L hL0 => ?_⟩
    refine FK.rd_for (J := Itl K l) (H1 := upd H L (.lst [])) (fun R r => ⟨_, rfl, l, rfl, ⟨_, SqL.of (FK.same_new hL0 _ _ hL)⟩, r⟩) (walk_list (xs := (us.map wS).map V.str))
      (fun j σ H' => ∃ (M : Addr) (ws : List W) (v3 v4 v5 : Option V), σ = [some (.ref t), some (.ref l), some (.ref M), v3, v4, v5] ∧ H M = none ∧ H' M = some (.lst ((ws.map wS).map V.str)) ∧ Sv K cx.Tiles cx.Floor H' o t f n d a b c (k + 90 * j) ∧ But2 d n H H' ∧ ws.Nodup ∧ ws.length ≤ 60 * j ∧ (∀ w ∈ ws, w.length ≤ 400) ∧
        ∀ y, y ∈ ws ↔ ∃ u ∈ us.take j, y ∈ wlsC (nfw a b c) u0 (nfw a b c (u0.reverse ++ u)))
      ⟨L, [], none, none, none, rfl, hL0, upd_same, S0.same (FK.same_new hL0), But2.of (FK.But.of (FK.same_new hL0)), List.Pairwise.nil, Nat.zero_le _, (fun _ h => nomatch h), fun y => by simp⟩ ?_ ?_ ?_
    · rintro i σ H' _ ⟨M, ws, v3, v4, v5, _, _, _, S1, b1, _⟩
      exact SqL.of (S0.lst b1 hL)
    · rintro j x' σ Ha Hb hj ⟨M, ws, v3, v4, v5, rfl, hM, eM, Sa, ba, nd, lw, lw2, hm⟩ ⟨rfl, hx⟩
      rw [lL] at hj
      obtain ⟨u, hju⟩ : ∃ u, us[j]? = some u := ⟨_, List.getElem?_eq_getElem hj⟩
      have hum := List.mem_of_getElem? hju
      rw [List.getElem?_map, List.getElem?_map, hju] at hx
      cases hx
      have lu := hu u hum
      simp only [tSeq, tIfS, tOr, tAnd, tB, tTest, tCB, tCons, tVar, tC, tNil, tNot, tNotV, tRet, tRetN, tNext, tBreak, tOrV, tAndV, tOp, tUn, rEq, rNe, tChain, rI0, rI, rU, tAsg, gName, tDrop, tAug, ipI, tIf, tCall, tCallS, tLst, tTup, tBM, tBM0, rAppend, rExtend, rPop, rReverse, tyV, rIxL, rIxT, rIxS, rIsB, rNotB, L2.start, List.map_cons, List.map_nil, List.length_cons, List.length_nil, List.replicate, List.cons_append, List.nil_append, List.append_nil, List.getElem?_cons_zero, List.getElem?_cons_succ, List.set_cons_zero, List.set_cons_succ, Nat.reduceAdd, Nat.reduceSub, Option.some.injEq, exists_eq_left', exists_eq_left, V.int.injEq, V.bl.injEq, V.str.injEq, V.ref.injEq, List.cons.injEq, and_true, true_and, and_assoc, reduceCtorEq, false_and, exists_false, or_false, false_or, exists_and_left, exists_const, scal, Int.reduceLT, Int.reduceLE, Int.reduceSub, Int.reduceAdd, Int.reduceNeg, if_true, if_false, tMeth, FK.tRevS]
      obtain ⟨dx, t1⟩ := Sa.tl.ob
      refine ⟨dx, _, t1, fldsT_no _ _ (by decide +kernel) (by decide +kernel), _, SqL.of (S0.lst ba hL), _, atI_nat (j := 0) (by rw [List.getElem?_map, List.getElem?_map, h0]; rfl), _, rfl, zw (by omega), ?_⟩
      rw [wS_rev, wS_app]
      refine ⟨by rw [wS_len, wS_len, List.length_reverse]; exact zl _ (by omega), t, f, n, o, d, a, b, c, _, u0.reverse ++ u, rfl, Sa.tl, by rw [List.length_append, List.length_reverse]; omega, by omega, fun Hc Tl b2 => ?_⟩
      have Sc := Sa.nrm Tl b2
      have eMc := Sa.lst b2 eM
      have lp : (nfw a b c (u0.reverse ++ u)).length ≤ 40 := by
        have := Nl (u0.reverse ++ u) (by rw [List.length_append, List.length_reverse]; omega)
        rw [List.length_append, List.length_reverse] at this
        omega
      simp only [tSeq, tIfS, tOr, tAnd, tB, tTest, tCB, tCons, tVar, tC, tNil, tNot, tNotV, tRet, tRetN, tNext, tBreak, tOrV, tAndV, tOp, tUn, rEq, rNe, tChain, rI0, rI, rU, tAsg, gName, tDrop, tAug, ipI, tIf, tCall, tCallS, tLst, tTup, tBM, tBM0, rAppend, rExtend, rPop, rReverse, tyV, rIxL, rIxT, rIxS, rIsB, rNotB, L2.start, List.map_cons, List.map_nil, List.length_cons, List.length_nil, List.replicate, List.cons_append, List.nil_append, List.append_nil, List.getElem?_cons_zero, List.getElem?_cons_succ, List.set_cons_zero, List.set_cons_succ, Nat.reduceAdd, Nat.reduceSub, Option.some.injEq, exists_eq_left', exists_eq_left, V.int.injEq, V.bl.injEq, V.str.injEq, V.ref.injEq, List.cons.injEq, and_true, true_and, and_assoc, reduceCtorEq, false_and, exists_false, or_false, false_or, exists_and_left, exists_const, scal, Int.reduceLT, Int.reduceLE, Int.reduceSub, Int.reduceAdd, Int.reduceNeg, if_true, if_false]
      refine FK.lc_lst ?_
      simp only [tSeq, tIfS, tOr, tAnd, tB, tTest, tCB, tCons, tVar, tC, tNil, tNot, tNotV, tRet, tRetN, tNext, tBreak, tOrV, tAndV, tOp, tUn, rEq, rNe, tChain, rI0, rI, rU, tAsg, gName, tDrop, tAug, ipI, tIf, tCall, tCallS, tLst, tTup, tBM, tBM0, rAppend, rExtend, rPop, rReverse, tyV, rIxL, rIxT, rIxS, rIsB, rNotB, L2.start, List.map_cons, List.map_nil, List.length_cons, List.length_nil, List.replicate, List.cons_append, List.nil_append, List.append_nil, List.getElem?_cons_zero, List.getElem?_cons_succ, List.set_cons_zero, List.set_cons_succ, Nat.reduceAdd, Nat.reduceSub, Option.some.injEq, exists_eq_left', exists_eq_left, V.int.injEq, V.bl.injEq, V.str.injEq, V.ref.injEq, List.cons.injEq, and_true, true_and, and_assoc, reduceCtorEq, false_and, exists_false, or_false, false_or, exists_and_left, exists_const, scal, Int.reduceLT, Int.reduceLE, Int.reduceSub, Int.reduceAdd, Int.reduceNeg, if_true, if_false]
      generalize hp : nfw a b c (u0.reverse ++ u) = p at lp
      have rp : Red (om a b c) p := by rw [← hp]; exact (N (u0.reverse ++ u) (by rw [List.length_append, List.length_reverse]; omega)).2.1
      have hN : NF (om a b c) (nfw a b c) := ⟨fun w hw => (N w (by omega)).1, fun w hw => Nl w (by omega), fun w1 w2 h1 h2 h => nfw_congr G.ha G.hb G.hc h1 h2 h⟩
      have lX : (wlsC (nfw a b c) u0 p).length = p.length := by unfold wlsC; rw [List.length_map, List.length_range]
      refine ⟨_, SqL.of (S0.lst (ba.trans b2) hL), _, atI_nat (j := 0) (by rw [List.getElem?_map, List.getElem?_map, h0]; rfl), t, f, n, o, d, a, b, c, _, u0, p, rfl, Sc, by omega, by omega, by omega, fun L2' Hd hL2 eL2 Sd bd => ⟨L2', rfl, ⟨_, SqL.of eL2⟩, ?_⟩⟩
      have eMd := Sc.lst bd eMc
      refine rd_lc_filterH (J := Itl K L2') (H1 := Hd) (((wlsC (nfw a b c) u0 p).map wS).map V.str) (fun x => !inV x ((ws.map wS).map V.str)) id (fun R r => r) walk_list (fun D o' hD => SqL.of (FK.same_new hD _ _ eL2)) (by rw [List.length_map, List.length_map, lX]; exact Nat.lt_of_le_of_lt (show p.length ≤ 100 by omega) (by decide)) (fun _ => rfl) ?_ ?_ ?_
      · rintro x' D ll R hD hx r
        obtain ⟨x2, hx2, rfl⟩ := List.mem_map.mp hx
        obtain ⟨x3, hx3, rfl⟩ := List.mem_map.mp hx2
        simp only [tSeq, tIfS, tOr, tAnd, tB, tTest, tCB, tCons, tVar, tC, tNil, tNot, tNotV, tRet, tRetN, tNext, tBreak, tOrV, tAndV, tOp, tUn, rEq, rNe, tChain, rI0, rI, rU, tAsg, gName, tDrop, tAug, ipI, tIf, tCall, tCallS, tLst, tTup, tBM, tBM0, rAppend, rExtend, rPop, rReverse, tyV, rIxL, rIxT, rIxS, rIsB, rNotB, L2.start, List.map_cons, List.map_nil, List.length_cons, List.length_nil, List.replicate, List.cons_append, List.nil_append, List.append_nil, List.getElem?_cons_zero, List.getElem?_cons_succ, List.set_cons_zero, List.set_cons_succ, Nat.reduceAdd, Nat.reduceSub, Option.some.injEq, exists_eq_left', exists_eq_left, V.int.injEq, V.bl.injEq, V.str.injEq, V.ref.injEq, List.cons.injEq, and_true, true_and, and_assoc, reduceCtorEq, false_and, exists_false, or_false, false_or, exists_and_left, exists_const, scal, Int.reduceLT, Int.reduceLE, Int.reduceSub, Int.reduceAdd, Int.reduceNeg, if_true, if_false, wipe]
        exact ⟨_, _, rfl, .inl (SqL.of (FK.same_new hD _ _ eMd)), rfl, flat_words _, _, rfl, r⟩
      · rintro x' D ll R hD hx _ r
        simp only [tSeq, tIfS, tOr, tAnd, tB, tTest, tCB, tCons, tVar, tC, tNil, tNot, tNotV, tRet, tRetN, tNext, tBreak, tOrV, tAndV, tOp, tUn, rEq, rNe, tChain, rI0, rI, rU, tAsg, gName, tDrop, tAug, ipI, tIf, tCall, tCallS, tLst, tTup, tBM, tBM0, rAppend, rExtend, rPop, rReverse, tyV, rIxL, rIxT, rIxS, rIsB, rNotB, L2.start, List.map_cons, List.map_nil, List.length_cons, List.length_nil, List.replicate, List.cons_append, List.nil_append, List.append_nil, List.getElem?_cons_zero, List.getElem?_cons_succ, List.set_cons_zero, List.set_cons_succ, Nat.reduceAdd, Nat.reduceSub, Option.some.injEq, exists_eq_left', exists_eq_left, V.int.injEq, V.bl.injEq, V.str.injEq, V.ref.injEq, List.cons.injEq, and_true, true_and, and_assoc, reduceCtorEq, false_and, exists_false, or_false, false_or, exists_and_left, exists_const, scal, Int.reduceLT, Int.reduceLE, Int.reduceSub, Int.reduceAdd, Int.reduceNeg, if_true, if_false, wipe]
        exact r
      · intro D hD
        rw [filter_words]
        have bD := ((ba.trans b2).trans bd)
        have hDH : H D = none := by
          obtain ⟨h1, h2⟩ := Sd.nes hD
          cases e : H D with
          | none => rfl
          | some v => rw [bD D v h2 h1 e] at hD; cases hD
        have Se := Sd.same (FK.same_new (o := HO.lst ((((wlsC (nfw a b c) u0 p).filter fun x => decide (x ∉ ws)).map wS).map V.str)) hD)
        have be := bD.updN (v := .lst ((((wlsC (nfw a b c) u0 p).filter fun x => decide (x ∉ ws)).map wS).map V.str)) hDH
        have lf : ((wlsC (nfw a b c) u0 p).filter fun x => decide (x ∉ ws)).length ≤ p.length := by rw [← lX]; exact List.length_filter_le _ _
        refine ⟨M, D, _, _, rfl, rfl, FK.same_new hD _ _ eMd, upd_same, ?_, fun M2 hM2 => ?_⟩
        · simp only [List.length_map]
          exact Nat.le_trans (show _ ≤ 2000 by omega) (by decide)
        have hM2H : H M2 = none := by
          obtain ⟨h1, h2⟩ := Se.nes hM2
          cases e : H M2 with
          | none => rfl
          | some v => rw [be M2 v h2 h1 e] at hM2; cases hM2
        refine ⟨M2, rfl, hM2H, ws ++ (wlsC (nfw a b c) u0 p).filter fun x => decide (x ∉ ws), ?_, ?_, be.updN hM2H, ?_, ?_, ?_, fun y => ?_⟩
        · rw [upd_same, List.map_append, List.map_append]
        · exact (Se.same (FK.same_new hM2)).mono (by omega)
        · refine List.nodup_append.mpr ⟨nd, (wlsC_nodup hN (by omega) (by omega) rp).filter _, fun x hx z hz => ?_⟩
          have := (List.mem_filter.mp hz).2
          intro e
          rw [← e] at this
          exact (of_decide_eq_true this) hx
        · rw [List.length_append]
          omega
        · intro w hw
          rcases List.mem_append.mp hw with h | h
          · exact lw2 w h
          · obtain ⟨kk, hkk, rfl⟩ := List.mem_map.mp (List.mem_filter.mp h).1
            have l9 : (u0 ++ p.take kk ++ (p.drop kk).take 1 ++ (u0 ++ p.take kk).reverse).length ≤ 200 := by
              simp only [List.length_append, List.length_reverse, List.length_take, List.length_drop]
              omega
            have := Nl _ (show (u0 ++ p.take kk ++ (p.drop kk).take 1 ++ (u0 ++ p.take kk).reverse).length ≤ 500 by omega)
            omega
        · rw [List.mem_append, hm y, List.mem_filter, List.take_add_one, hju]
          simp only [Option.toList_some, List.mem_append, List.mem_singleton, decide_eq_true_eq]
          constructor
          · rintro (⟨u', h1, h2⟩ | ⟨h1, h2⟩)
            · exact ⟨u', .inl h1, h2⟩
            · exact ⟨u, .inr rfl, by rw [hp]; exact h1⟩
          · rintro ⟨u', h1 | rfl, h2⟩
            · exact .inl ⟨u', h1, h2⟩
            · rw [hp] at h2
              by_cases c1 : y ∈ ws
              · exact .inl ((hm y).mp c1)
              · exact .inr ⟨h2, c1⟩
    · rintro σ Ha ⟨M, ws, v3, v4, v5, rfl, hM, eM, Sa, ba, nd, lw, lw2, hm⟩
      rw [lL] at Sa lw hm
      rw [List.take_length] at hm
      simp only [tSeq, tIfS, tOr, tAnd, tB, tTest, tCB, tCons, tVar, tC, tNil, tNot, tNotV, tRet, tRetN, tNext, tBreak, tOrV, tAndV, tOp, tUn, rEq, rNe, tChain, rI0, rI, rU, tAsg, gName, tDrop, tAug, ipI, tIf, tCall, tCallS, tLst, tTup, tBM, tBM0, rAppend, rExtend, rPop, rReverse, tyV, rIxL, rIxT, rIxS, rIsB, rNotB, L2.start, List.map_cons, List.map_nil, List.length_cons, List.length_nil, List.replicate, List.cons_append, List.nil_append, List.append_nil, List.getElem?_cons_zero, List.getElem?_cons_succ, List.set_cons_zero, List.set_cons_succ, Nat.reduceAdd, Nat.reduceSub, Option.some.injEq, exists_eq_left', exists_eq_left, V.int.injEq, V.bl.injEq, V.str.injEq, V.ref.injEq, List.cons.injEq, and_true, true_and, and_assoc, reduceCtorEq, false_and, exists_false, or_false, false_or, exists_and_left, exists_const, scal, Int.reduceLT, Int.reduceLE, Int.reduceSub, Int.reduceAdd, Int.reduceNeg, if_true, if_false]
      exact q ws M Ha nd (by omega) hm hM eM (Sa.mono (by omega)) ba


end
end K32

namespace K32
open PySem PySem.Spec PyProof.Rows L2 Cox
section
variable {P : Program} {w : World} {K : PySem.W.Frag} {mg : Str → Option Value} {base : Heap} {cx : Xs}
def spTBeyond (K : PySem.W.Frag) (CT CF : Addr) : Sp := fun vs H Q _ => ∃ (t f n o d : Addr) (a b c k : Nat) (u : W) (l : Fin 3), vs = [.ref t, .str (wS u), .str (wS [l])] ∧ TlAt K CT CF H t f n o d a b c k ∧ u.length ≤ 399 ∧ k ≤ 10000 ∧
  ∀ H', TlAt K CT CF H' t f n o d a b c (k + 1) → But2 d n H H' → Q (.str (wS (nfw a b c (u ++ [l])))) H'
theorem ok_Tiles_beyond (T : Txt K mg cx) : FK.MHas P w K mg base (L2.CX P w) 7 cx.Tiles "beyond" ["self", "tile", "letter"] (spTBeyond K cx.Tiles cx.Floor) := by
  have H_check_long_word := ok_check_long_word (P := P) (w := w) (base := base) T
  have H_check_letter := ok_check_letter (P := P) (w := w) (base := base) T
  have H_Tiles_remembered := ok_Tiles_remembered (P := P) (w := w) (mg := mg) (base := base) T
  refine T.d_Tiles_beyond.okX sc_Tiles_beyond (fun vs H Q E h => ?_) (fun f cdv A outer s H vs Q E hr h => ?_)
  · obtain ⟨t, f, n, o, d, a, b, c, k, u, l, rfl, _⟩ := h
    rfl
  · obtain ⟨t, f, n, o, d, a, b, c, k, u, l, rfl, Tl, hu, hk, q⟩ := h
    refine ⟨_, (pss_cons (ps_expr (FK.pe_h (E := E) H_check_long_word (hr.mono (by decide)) (passes_call (takes_of rfl rfl rfl rfl) (fun _ _ _ _ h => h)) (pa_cons (pv 1) (pa_cons (pe_glob (v := .int 400) rfl T.c_MOST_REMEMBERED ⟨_, rfl⟩) pa_nil))))
  (pss_cons (ps_expr (FK.pe_h (E := E) H_check_letter (hr.mono (by decide)) (passes_call (takes_of rfl rfl rfl rfl) (fun _ _ _ _ h => h)) (pa_cons (pv 2) pa_nil)))
  (pss_one (ps_ret (FK.pe_m (E := E0) (pv 0) T.cl_Tiles H_Tiles_remembered (hr.mono (by decide)) pass0 (pa_cons (pe_op op_add_str (pv 1) (pv 2)) pa_nil)))))), ?_⟩
    simp only [tSeq, tIfS, tOr, tAnd, tB, tTest, tCB, tCons, tVar, tC, tNil, tNot, tNotV, tRet, tRetN, tNext, tBreak, tOrV, tAndV, tOp, tUn, rEq, rNe, tChain, rI0, rI, rU, tAsg, gName, tDrop, tAug, ipI, tIf, tCall, tCallS, tLst, tTup, tBM, tBM0, rAppend, rExtend, rPop, rReverse, tyV, rIxL, rIxT, rIxS, rIsB, rNotB, L2.start, List.map_cons, List.map_nil, List.length_cons, List.length_nil, List.replicate, List.cons_append, List.nil_append, List.append_nil, List.getElem?_cons_zero, List.getElem?_cons_succ, List.set_cons_zero, List.set_cons_succ, Nat.reduceAdd, Nat.reduceSub, Option.some.injEq, exists_eq_left', exists_eq_left, V.int.injEq, V.bl.injEq, V.str.injEq, V.ref.injEq, List.cons.injEq, and_true, true_and, and_assoc, reduceCtorEq, false_and, exists_false, or_false, false_or, exists_and_left, exists_const, scal, Int.reduceLT, Int.reduceLE, Int.reduceSub, Int.reduceAdd, Int.reduceNeg, if_true, if_false, tMeth]
    refine ⟨wS u, 400, rfl, szw (by omega), .inr (.inr rfl), (fun e => by rw [okWord_wS (by omega)] at e; cases e), fun _ H1 s1 => ⟨wS [l], rfl, (fun e => by rw [isLet_wS] at e; cases e), fun _ H2 s2 => ?_⟩⟩
    obtain ⟨⟨dx, h1⟩, h2, h0, kvs, h3, h4, h5, h6⟩ := id Tl
    have s12 := s1.trans s2
    exact ⟨dx, _, s12 _ _ h1, fldsT_no _ _ (by decide +kernel) (by decide +kernel), by rw [wS_len, wS_len]; exact zl _ (by simp; omega), t, f, n, o, d, a, b, c, k, u ++ [l], by rw [wS_app], ⟨⟨dx, s12 _ _ h1⟩, h2.same s12, h0, kvs, s12 _ _ h3, h4, h5, h6⟩, by simp; omega, hk, fun H3 Tl3 b3 => q H3 Tl3 (fun b u h1 h2 e => b3 b u h1 h2 (s12 _ _ e))⟩

theorem flat_len {f : W → List W} {b : Nat} : ∀ (us : List W), (∀ u ∈ us, (f u).length ≤ b) → ((us.map f).flatten).length ≤ b * us.length
  | [], _ => Nat.zero_le _
  | u :: us, h => by
    have h1 := h u List.mem_cons_self
    have h2 := flat_len us fun v hv => h v (List.mem_cons_of_mem _ hv)
    rw [List.map_cons, List.flatten_cons, List.length_append, List.length_cons]
    rw [Nat.mul_succ]
    omega
theorem nf_of {a b c : Nat} (ha : okOrd a) (hb : okOrd b) (hc : okOrd c) : NF (om a b c) (nfw a b c) ∧ ∀ u : W, u.length ≤ 500 → Red (om a b c) (nfw a b c u) := by
  have N := fun (w : W) (hw : w.length ≤ 500) => nfw_ok (a := a) (b := b) (c := c) ha hb hc (w := w) (by omega)
  exact ⟨⟨fun w hw => (N w hw).1, fun w hw => by rw [(N w hw).2.2.1]; exact ln_self w, fun w1 w2 h1 h2 h => nfw_congr ha hb hc h1 h2 h⟩, fun u hu => (N u hu).2.1⟩
theorem pwl_eq {a b c : Nat} (ha : okOrd a) (hb : okOrd b) (hc : okOrd c) {v0 v : W} (l0 : v0.length ≤ 20) (l1 : v.length ≤ 20) : pwl a b c v0 v = wlsC (nfw a b c) v0 (nfw a b c (v0.reverse ++ v)) := by
  obtain ⟨hN, _⟩ := nf_of ha hb hc
  unfold pwl
  have e0 := hN.e v0 (by omega)
  have ln0 := hN.l v0 (by omega)
  have e1 : nfw a b c ((nfw a b c v0).reverse ++ v) = nfw a b c (v0.reverse ++ v) := hN.c _ _ (by rw [List.length_append, List.length_reverse]; omega) (by rw [List.length_append, List.length_reverse]; omega) (e0.symm.rev.right v)
  have ln1 := hN.l (v0.reverse ++ v) (by rw [List.length_append, List.length_reverse]; omega)
  rw [List.length_append, List.length_reverse] at ln1
  rw [e1]
  exact wlsC_cong hN (by omega) (by omega) (by omega) e0.symm
theorem hull_bnd {a b c : Nat} (ha : okOrd a) (hb : okOrd b) (hc : okOrd c) {us : List W} {u0 : W} (ln : us.length ≤ 3) (hu : ∀ u ∈ us, u.length ≤ 8) (l0 : u0.length ≤ 8) : ∃ ws : List W, (∀ y, (∃ u ∈ us, y ∈ pwl a b c u0 u) → y ∈ ws) ∧ ws.length ≤ 48 := by
  obtain ⟨hN, _⟩ := nf_of ha hb hc
  refine ⟨(us.map (pwl a b c u0)).flatten, fun y ⟨u, h1, h2⟩ => List.mem_flatten.mpr ⟨_, List.mem_map.mpr ⟨u, h1, rfl⟩, h2⟩, ?_⟩
  have h := flat_len (f := pwl a b c u0) (b := 16) us fun u h => by
    have := hu u h
    rw [pwl_eq ha hb hc (by omega) (by omega), wlsC_len]
    have := hN.l (u0.reverse ++ u) (by rw [List.length_append, List.length_reverse]; omega)
    rw [List.length_append, List.length_reverse] at this
    omega
  omega
theorem hull_nw {a b c : Nat} (ha : okOrd a) (hb : okOrd b) (hc : okOrd c) {us : List W} {u0 : W} (ln : us.length ≤ 3) (hu : ∀ u ∈ us, u.length ≤ 8) (l0 : u0.length ≤ 8) {y : W} (h : HullC a b c us u0 y) : nfw a b c y = y ∧ y.length ≤ 56 := by
  obtain ⟨hN, hR⟩ := nf_of ha hb hc
  obtain ⟨ws, hw, lw⟩ := hull_bnd ha hb hc ln hu l0
  have l1 := hN.l u0 (by omega)
  obtain ⟨h1, h2, _⟩ := Wk.walls hN hR hw (by omega) (by omega) (hN.c _ _ (by omega) (by omega) (hN.e u0 (by omega)).symm) h
  exact ⟨h1, by omega⟩
/-- what the law's search has met: all that lies before a place was gone on from -/
structure LInv (nf : W → W) (S : W → Prop) (t0 : W) (k : Nat) (ms : List W) : Prop where
  nd : ms.Nodup
  h0 : t0 ∈ ms
  rch : ∀ r ∈ ms, Wk nf S t0 r
  cl : ∀ i, i < k → ∀ r, ms[i]? = some r → ∀ l, S (nf (r ++ [l] ++ r.reverse)) → nf (r ++ [l]) ∈ ms
theorem LInv.all {nf : W → W} {S : W → Prop} {t0 : W} {ms : List W} {k : Nat} (h : LInv nf S t0 k ms) (hk : ms.length ≤ k) {y : W} (hy : Wk nf S t0 y) : y ∈ ms := by
  induction hy with
  | refl => exact h.h0
  | step l hr hs ih =>
    obtain ⟨i, hi⟩ := List.mem_iff_getElem?.mp ih
    have := (List.getElem?_eq_some_iff.mp hi).1
    exact h.cl i (by omega) _ hi l hs
def spLHull (K : PySem.W.Frag) (CT CF : Addr) : Sp := fun vs H Q _ => ∃ (t f n o d l : Addr) (a b c k : Nat) (us : List W) (u0 : W), vs = [.ref t, .ref l] ∧ Sv K CT CF H o t f n d a b c k ∧ H l = some (.lst ((us.map wS).map V.str)) ∧ us[0]? = some u0 ∧ us.length ≤ 3 ∧ (∀ u ∈ us, u.length ≤ 8) ∧ k ≤ 10 ∧
  ∀ (ys : List W) L H', ys.Nodup → ys.Pairwise ole → nfw a b c u0 ∈ ys → ys.length ≤ 700 → (∀ y ∈ ys, HullC a b c us u0 y) → (ys.length ≤ 200 → ∀ y, HullC a b c us u0 y → y ∈ ys) → H L = none → H' L = some (.lst ((ys.map wS).map V.str)) → Sv K CT CF H' o t f n d a b c (k + 3000) → But2 d n H H' → Q (.ref L) H'
theorem ok_law_hull (T : Txt K mg cx) : FK.Has P w K mg base CX0 11 "_law_hull" ["floor", "words"] (spLHull K cx.Tiles cx.Floor) := by
  have H_Tiles_normal := ok_Tiles_normal (P := P) (w := w) (mg := mg) (base := base) T
  have H_Tiles_beyond := ok_Tiles_beyond (P := P) (w := w) (mg := mg) (base := base) T
  have H_law_parting := ok_law_parting (P := P) (w := w) (base := base) T
  have H_law_mirror := ok_law_mirror (P := P) (w := w) (base := base) T
  have H_law_sorted := ok_law_sorted (P := P) (w := w) (base := base) T
  refine T.d_law_hull.ok sc_law_hull (fun vs H Q E h => ?_) (fun f' cdv A outer s H vs Q E hr h => ?_)
  · obtain ⟨t, f, n, o, d, l, a, b, c, k, us, u0, rfl, _⟩ := h
    rfl
  · obtain ⟨t, f, n, o, d, l, a, b, c, k, us, u0, rfl, S0, hL, h0, ln, hu, hk, q⟩ := h
    refine ⟨_, (pss_cons (ps_set (i := 2) sc_law_hull.nd rfl (Or.inl rfl) (by exact (FK.pe_h (E := E0) H_law_parting (hr.mono (by decide)) pass0 (pa_cons (pv 0) (pa_cons (pv 1) pa_nil)))))
  (pss_cons (ps_set (i := 3) sc_law_hull.nd rfl (Or.inl rfl) (by exact (pe_lst (pa_cons (FK.pe_m (E := E0) (pv 0) T.cl_Tiles H_Tiles_normal (hr.mono (by decide)) FK.pass1 (pa_cons (pe_ix (r := rIxL K) ix_list (pv 1) pe_int (fun _ _ => rfl)) pa_nil)) pa_nil))))
  (pss_cons (ps_for PassesOwn.never rfl (pi_range1 rfl T.n_range (pa_cons pe_int pa_nil)) (pg_name (i := 4) sc_law_hull.nd rfl (Or.inl rfl))
  (pss_cons (ps_if (pt_cmpR op_eq (pv 4) (pe_callB call_len_seq (by rfl) T.n_len PySem.boot_len (pa_cons (pv 3) pa_nil)) (nomark _)) (pss_one ps_break) pss_nil)
  (pss_one (ps_for PassesOwn.never rfl (pi_str pe_str) (pg_name (i := 5) sc_law_hull.nd rfl (Or.inl rfl))
  (pss_cons (ps_set (i := 6) sc_law_hull.nd rfl (Or.inl rfl) (by exact (FK.pe_m (E := E0) (pv 0) T.cl_Tiles H_Tiles_beyond (hr.mono (by decide)) FK.pass1 (pa_cons (pe_ix (r := rIxL K) ix_list (pv 3) (pv 4) (fun _ _ => rfl)) (pa_cons (pv 5) pa_nil)))))
  (pss_one (ps_if (PW.pt (pw_and (pt_cmpR (show OpR _ (compareOp .NotIn) (rIn K true) from op_notIn_seq) (pv 6) (pv 3) (by rfl)) (pw_and1 (pt_cmpR (show OpR _ (compareOp .In) (rIn K false) from op_in_seq) (FK.pe_h (E := E0) H_law_mirror (hr.mono (by decide)) pass0 (pa_cons (pv 0) (pa_cons (pe_ix (r := rIxL K) ix_list (pv 3) (pv 4) (fun _ _ => rfl)) (pa_cons (pv 5) pa_nil)))) (pv 2) (by rfl))))) (pss_one (ps_expr (pe_bm PySem.F.plainAttrs_list PySem.F.slot_list_append PySem.F.type_list_append mt_append (pv 3) (pa_cons (pv 6) pa_nil)))) pss_nil)))))))
  (pss_one (ps_ret (FK.pe_h (E := E0) H_law_sorted (hr.mono (by decide)) pass0 (pa_cons (pv 3) pa_nil))))))), ?_⟩
    have G := S0.g
    obtain ⟨hN, hR⟩ := nf_of G.ha G.hb G.hc
    have lu0 := hu u0 (List.mem_of_getElem? h0)
    simp only [tSeq, tIfS, tOr, tAnd, tB, tTest, tCB, tCons, tVar, tC, tNil, tNot, tNotV, tRet, tRetN, tNext, tBreak, tOrV, tAndV, tOp, tUn, rEq, rNe, tChain, rI0, rI, rU, tAsg, gName, tDrop, tAug, ipI, tIf, tCall, tCallS, tLst, tTup, tBM, tBM0, rAppend, rExtend, rPop, rReverse, tyV, rIxL, rIxT, rIxS, rIsB, rNotB, L2.start, List.map_cons, List.map_nil, List.length_cons, List.length_nil, List.replicate, List.cons_append, List.nil_append, List.append_nil, List.getElem?_cons_zero, List.getElem?_cons_succ, List.set_cons_zero, List.set_cons_succ, Nat.reduceAdd, Nat.reduceSub, Option.some.injEq, exists_eq_left', exists_eq_left, V.int.injEq, V.bl.injEq, V.str.injEq, V.ref.injEq, List.cons.injEq, and_true, true_and, and_assoc, reduceCtorEq, false_and, exists_false, or_false, false_or, exists_and_left, exists_const, scal, Int.reduceLT, Int.reduceLE, Int.reduceSub, Int.reduceAdd, Int.reduceNeg, if_true, if_false, tMeth]
    refine ⟨t, f, n, o, d, l, a, b, c, k, us, u0, rfl, S0, hL, h0, by omega, fun u h => by have := hu u h; omega, by omega, fun ws W1 H1 nd lw hm hW eW S1 b1 => ?_⟩
    simp only [tSeq, tIfS, tOr, tAnd, tB, tTest, tCB, tCons, tVar, tC, tNil, tNot, tNotV, tRet, tRetN, tNext, tBreak, tOrV, tAndV, tOp, tUn, rEq, rNe, tChain, rI0, rI, rU, tAsg, gName, tDrop, tAug, ipI, tIf, tCall, tCallS, tLst, tTup, tBM, tBM0, rAppend, rExtend, rPop, rReverse, tyV, rIxL, rIxT, rIxS, rIsB, rNotB, L2.start, List.map_cons, List.map_nil, List.length_cons, List.length_nil, List.replicate, List.cons_append, List.nil_append, List.append_nil, List.getElem?_cons_zero, List.getElem?_cons_succ, List.set_cons_zero, List.set_cons_succ, Nat.reduceAdd, Nat.reduceSub, Option.some.injEq, exists_eq_left', exists_eq_left, V.int.injEq, V.bl.injEq, V.str.injEq, V.ref.injEq, List.cons.injEq, and_true, true_and, and_assoc, reduceCtorEq, false_and, exists_false, or_false, false_or, exists_and_left, exists_const, scal, Int.reduceLT, Int.reduceLE, Int.reduceSub, Int.reduceAdd, Int.reduceNeg, if_true, if_false, tMeth]
    obtain ⟨dx, t1⟩ := S1.tl.ob
    refine ⟨dx, _, t1, fldsT_no _ _ (by decide +kernel) (by decide +kernel), _, SqL.of (S0.lst b1 hL), _, atI_nat (j := 0) (by rw [List.getElem?_map, List.getElem?_map, h0]; rfl), t, f, n, o, d, a, b, c, _, u0, rfl, S1.tl, by omega, by omega, fun H2 Tl2 b2 => ?_⟩
    have S2 := S1.nrm Tl2 b2
    have eW2 := S1.lst b2 eW
    have b12 := b1.trans b2
    refine ⟨by decide, fun M hM => ?_⟩
    have hMH : H M = none := by
      obtain ⟨h1, h2⟩ := S2.nes hM
      cases e : H M with
      | none => rfl
      | some v => rw [b12 M v h2 h1 e] at hM; cases hM
    have nWM : W1 ≠ M := fun z => by rw [z, hM] at eW2; cases eW2
    have nlM : l ≠ M := fun z => by rw [z, hMH] at hL; cases hL
    have hm' : ∀ y, y ∈ ws ↔ ∃ u ∈ us, y ∈ pwl a b c u0 u := fun y => by
      rw [hm y]
      constructor
      · rintro ⟨u, h1, h2⟩
        exact ⟨u, h1, by rw [pwl_eq G.ha G.hb G.hc (by omega) (by have := hu u h1; omega)]; exact h2⟩
      · rintro ⟨u, h1, h2⟩
        exact ⟨u, h1, by rw [pwl_eq G.ha G.hb G.hc (by omega) (by have := hu u h1; omega)] at h2; exact h2⟩
    have nw : ∀ y, HullC a b c us u0 y → nfw a b c y = y ∧ y.length ≤ 56 := fun y h => hull_nw G.ha G.hb G.hc ln hu lu0 h
    have fin : ∀ (ms : List W) (i : Nat) (Ha : Hp), LInv (nfw a b c) (fun y => ∃ u ∈ us, y ∈ pwl a b c u0 u) (nfw a b c u0) i ms → ms.length ≤ 700 → (ms.length ≤ i ∨ 200 < ms.length) → Ha M = some (.lst ((ms.map wS).map V.str)) → Sv K cx.Tiles cx.Floor Ha o t f n d a b c (k + 3000) → But2 d n H Ha → spSorted K [.ref M] Ha Q E0 := by
      intro ms i Ha li lm hc eM Sa ba
      refine ⟨M, ms, rfl, eM, by omega, fun u hu' => by have := (nw u (li.rch u hu')).2; omega, fun ys p H7 pm pw hp ep s7 => ?_⟩
      have hpH : H p = none := by
        obtain ⟨h1, h2⟩ := Sa.nes hp
        cases e : H p with
        | none => rfl
        | some v => rw [ba p v h2 h1 e] at hp; cases hp
      refine q ys p H7 (pm.nodup_iff.mpr li.nd) pw (pm.mem_iff.mpr li.h0) (by rw [pm.length_eq]; exact lm) (fun y hy => li.rch y (pm.mem_iff.mp hy)) (fun hl y hy => ?_) hpH ep (Sa.same s7) (fun x v h1 h2 e => s7 _ _ (ba x v h1 h2 e))
      rw [pm.length_eq] at hl
      exact pm.mem_iff.mpr (li.all (by omega) hy)
    have h0' : LInv (nfw a b c) (fun y => ∃ u ∈ us, y ∈ pwl a b c u0 u) (nfw a b c u0) 0 [nfw a b c u0] := ⟨List.pairwise_singleton _ _, List.mem_singleton.mpr rfl, fun r hr => by rw [List.mem_singleton.mp hr]; exact .refl, fun i h => absurd h (Nat.not_lt_zero _)⟩
    have S3 := S2.same (FK.same_new (o := HO.lst [V.str (wS (nfw a b c u0))]) hM)
    refine FK.rd_for (J := Itr 0 201) (fun R r => by first | exact r | exact ⟨by decide, by decide, r⟩ | exact ⟨_, rfl, by decide, by decide, r⟩) (walk_nat (n := 201))
      (fun i σ H' => ∃ (ms : List W) (v4 v5 v6 : Option V), σ = [some (.ref t), some (.ref l), some (.ref W1), some (.ref M), v4, v5, v6] ∧ LInv (nfw a b c) (fun y => ∃ u ∈ us, y ∈ pwl a b c u0 u) (nfw a b c u0) i ms ∧ i ≤ ms.length ∧ ms.length ≤ 1 + 3 * i ∧ H' M = some (.lst ((ms.map wS).map V.str)) ∧ H' W1 = some (.lst ((ws.map wS).map V.str)) ∧ Sv K cx.Tiles cx.Floor H' o t f n d a b c (k + 1001 + 6 * i) ∧ But2 d n H H')
      ⟨[nfw a b c u0], none, none, none, rfl, h0', Nat.zero_le _, Nat.le_refl _, upd_same, FK.same_new hM _ _ eW2, S3, fun x v h1 h2 e => FK.same_new hM _ _ (b12 x v h1 h2 e)⟩ (fun _ _ _ _ _ => trivial) ?_ ?_
    · rintro i x' σ Ha Hb hi ⟨ms, v4, v5, v6, rfl, li, lim, lmi, eM, eWa, Sa, ba⟩ ⟨rfl, hx⟩
      obtain rfl : x' = .int (i : Nat) := hx
      simp only [tSeq, tIfS, tOr, tAnd, tB, tTest, tCB, tCons, tVar, tC, tNil, tNot, tNotV, tRet, tRetN, tNext, tBreak, tOrV, tAndV, tOp, tUn, rEq, rNe, tChain, rI0, rI, rU, tAsg, gName, tDrop, tAug, ipI, tIf, tCall, tCallS, tLst, tTup, tBM, tBM0, rAppend, rExtend, rPop, rReverse, tyV, rIxL, rIxT, rIxS, rIsB, rNotB, L2.start, List.map_cons, List.map_nil, List.length_cons, List.length_nil, List.replicate, List.cons_append, List.nil_append, List.append_nil, List.getElem?_cons_zero, List.getElem?_cons_succ, List.set_cons_zero, List.set_cons_succ, Nat.reduceAdd, Nat.reduceSub, Option.some.injEq, exists_eq_left', exists_eq_left, V.int.injEq, V.bl.injEq, V.str.injEq, V.ref.injEq, List.cons.injEq, and_true, true_and, and_assoc, reduceCtorEq, false_and, exists_false, or_false, false_or, exists_and_left, exists_const, scal, Int.reduceLT, Int.reduceLE, Int.reduceSub, Int.reduceAdd, Int.reduceNeg, if_true, if_false]
      refine ⟨_, .inl (SqL.of eM), ?_⟩
      rw [List.length_map, List.length_map]
      refine ite2 (fun c1 => ?_) (fun c1 => ?_)
      · have c1 : (i : Int) = (ms.length : Int) := of_decide_eq_true c1
        exact fin ms i Hb li (by omega) (.inl (by omega)) eM (Sa.mono (by omega)) ba
      have c1 : ¬ (i : Int) = (ms.length : Int) := fun z => c1 (decide_eq_true z)
      obtain ⟨r, hr⟩ : ∃ r, ms[i]? = some r := ⟨_, List.getElem?_eq_getElem (by omega)⟩
      have hrm := List.mem_of_getElem? hr
      obtain ⟨nr, lr⟩ := nw r (li.rch r hrm)
      refine FK.rd_for (J := Its "012") (fun R r => by first | exact r | exact ⟨_, rfl, r⟩) (show Walk (Its "012") 3 _ _ from (show ("012" : Str).cps.size = 3 by decide +kernel) ▸ walk_str (z := "012"))
        (fun j σ H' => ∃ (ms : List W) (v5 v6 : Option V), σ = [some (.ref t), some (.ref l), some (.ref W1), some (.ref M), some (V.int i), v5, v6] ∧ LInv (nfw a b c) (fun y => ∃ u ∈ us, y ∈ pwl a b c u0 u) (nfw a b c u0) i ms ∧ i + 1 ≤ ms.length ∧ ms.length ≤ 1 + 3 * i + j ∧ ms[i]? = some r ∧ (∀ l' : Fin 3, l'.1 < j → (∃ u ∈ us, nfw a b c (r ++ [l'] ++ r.reverse) ∈ pwl a b c u0 u) → nfw a b c (r ++ [l']) ∈ ms) ∧ H' M = some (.lst ((ms.map wS).map V.str)) ∧ H' W1 = some (.lst ((ws.map wS).map V.str)) ∧ Sv K cx.Tiles cx.Floor H' o t f n d a b c (k + 1001 + 6 * i + 2 * j) ∧ But2 d n H H')
        ⟨ms, v5, v6, rfl, li, by omega, by omega, hr, fun l' h => absurd h (Nat.not_lt_zero _), eM, eWa, Sa, ba⟩ (fun _ _ _ _ _ => trivial) ?_ ?_
      · rintro j x' σ Ha Hb hj ⟨ms, v5, v6, rfl, li, lim, lmi, hr, hcl, eM, eWa, Sa, ba⟩ ⟨rfl, ch, hch, rfl⟩
        obtain ⟨l1, hl1, el⟩ : ∃ l : Fin 3, l.1 = j ∧ (⟨#[ch]⟩ : Str) = wS [l] := by
          match j, hch with
          | 0, hch => cases hch; exact ⟨0, rfl, rfl⟩
          | 1, hch => cases hch; exact ⟨1, rfl, rfl⟩
          | 2, hch => cases hch; exact ⟨2, rfl, rfl⟩
          | _ + 3, _ => omega
        rw [el]
        have hold : ∀ l' : Fin 3, l'.1 < j + 1 → l'.1 < j ∨ l' = l1 := fun l' h => by
          rcases Nat.lt_or_ge l'.1 j with c1 | c1
          · exact .inl c1
          · exact .inr (Fin.ext (by omega))
        have atM : atI ((ms.map wS).map V.str) (i : Nat) = some (.str (wS r)) := atI_nat (by rw [List.getElem?_map, List.getElem?_map, hr]; rfl)
        simp only [tSeq, tIfS, tOr, tAnd, tB, tTest, tCB, tCons, tVar, tC, tNil, tNot, tNotV, tRet, tRetN, tNext, tBreak, tOrV, tAndV, tOp, tUn, rEq, rNe, tChain, rI0, rI, rU, tAsg, gName, tDrop, tAug, ipI, tIf, tCall, tCallS, tLst, tTup, tBM, tBM0, rAppend, rExtend, rPop, rReverse, tyV, rIxL, rIxT, rIxS, rIsB, rNotB, L2.start, List.map_cons, List.map_nil, List.length_cons, List.length_nil, List.replicate, List.cons_append, List.nil_append, List.append_nil, List.getElem?_cons_zero, List.getElem?_cons_succ, List.set_cons_zero, List.set_cons_succ, Nat.reduceAdd, Nat.reduceSub, Option.some.injEq, exists_eq_left', exists_eq_left, V.int.injEq, V.bl.injEq, V.str.injEq, V.ref.injEq, List.cons.injEq, and_true, true_and, and_assoc, reduceCtorEq, false_and, exists_false, or_false, false_or, exists_and_left, exists_const, scal, Int.reduceLT, Int.reduceLE, Int.reduceSub, Int.reduceAdd, Int.reduceNeg, if_true, if_false, tMeth]
        obtain ⟨dx5, t5⟩ := Sa.tl.ob
        refine ⟨dx5, _, t5, fldsT_no _ _ (by decide +kernel) (by decide +kernel), _, SqL.of eM, _, atM, t, f, n, o, d, a, b, c, _, r, l1, rfl, Sa.tl, by omega, by omega, fun H5 Tl5 b5 => ?_⟩
        have S5 := Sa.nrm Tl5 b5
        have eM5 := Sa.lst b5 eM
        have eW5 := Sa.lst b5 eWa
        have b15 := ba.trans b5
        refine ⟨_, _, rfl, .inl (SqL.of eM5), rfl, flat_words _, _, rfl, ?_⟩
        rw [inV_wS]
        by_cases c2 : nfw a b c (r ++ [l1]) ∈ ms
        · refine iteF' (by simp [c2]) ⟨ms, li, lim, by omega, hr, fun l' h1 h2 => ?_, eM5, eW5, S5.mono (by omega), b15⟩
          rcases hold l' h1 with c3 | c3
          · exact hcl l' c3 h2
          · rw [c3]; exact c2
        · refine iteT' (by simp [c2]) ⟨_, SqL.of eM5, _, atM, t, f, n, o, d, a, b, c, _, r, l1, rfl, S5, by omega, by omega, fun H6 S6 b6 => ?_⟩
          have eM6 := S5.lst b6 eM5
          have eW6 := S5.lst b6 eW5
          have b16 := b15.trans b6
          refine ⟨_, _, rfl, .inl (SqL.of eW6), rfl, flat_words _, _, rfl, ?_⟩
          rw [inV_wS]
          by_cases c3 : nfw a b c (r ++ [l1] ++ r.reverse) ∈ ws
          · have hS := (hm' _).mp c3
            have li2 : LInv (nfw a b c) (fun y => ∃ u ∈ us, y ∈ pwl a b c u0 u) (nfw a b c u0) i (ms ++ [nfw a b c (r ++ [l1])]) := by
              refine ⟨List.nodup_append.mpr ⟨li.nd, List.pairwise_singleton _ _, fun p hp q hq e => c2 ?_⟩, List.mem_append_left _ li.h0, fun z hz => ?_, fun i' hi' z hz l' h' => ?_⟩
              · have e : p = nfw a b c (r ++ [l1]) := e.trans (List.mem_singleton.mp hq)
                exact e ▸ hp
              · rcases List.mem_append.mp hz with h1 | h1
                · exact li.rch z h1
                · rw [List.mem_singleton.mp h1]
                  exact .step l1 (li.rch r (List.mem_of_getElem? hr)) hS
              · rw [List.getElem?_append_left (by omega)] at hz
                exact List.mem_append_left _ (li.cl i' hi' z hz l' h')
            have e1 : ((ms.map wS).map V.str) ++ [V.str (wS (nfw a b c (r ++ [l1])))] = (((ms ++ [nfw a b c (r ++ [l1])]).map wS).map V.str) := by rw [List.map_append, List.map_append]; rfl
            refine iteT' (by rw [decide_eq_true c3]; rfl) ⟨.inl ⟨_, SqL.of eM6⟩, _, eM6, ?_, ms ++ [nfw a b c (r ++ [l1])], li2, ?_, ?_, ?_, fun l' h1 h2 => ?_, ?_, ?_, ?_, ?_⟩
            · rw [List.length_map, List.length_map]
              exact Nat.lt_of_le_of_lt (show ms.length ≤ 1000 by omega) (by decide)
            · rw [List.length_append]; omega
            · rw [List.length_append, List.length_singleton]; omega
            · rw [List.getElem?_append_left (by omega)]; exact hr
            · rcases hold l' h1 with c4 | c4
              · exact List.mem_append_left _ (hcl l' c4 h2)
              · rw [c4]; exact List.mem_append_right _ (List.mem_singleton.mpr rfl)
            · rw [upd_same, e1]
            · rw [upd_ne nWM]; exact eW6
            · exact (S6.updL eM6).mono (by omega)
            · exact b16.updN hMH
          · refine iteF' (by rw [decide_eq_false c3]; simp) ⟨ms, li, lim, by omega, hr, fun l' h1 h2 => ?_, eM6, eW6, S6.mono (by omega), b16⟩
            rcases hold l' h1 with c4 | c4
            · exact hcl l' c4 h2
            · rw [c4] at h2; exact absurd ((hm' _).mpr h2) c3
      · rintro σ Ha ⟨ms, v5, v6, rfl, li, lim, lmi, hr, hcl, eM, eWa, Sa, ba⟩
        refine ⟨ms, _, _, _, rfl, ⟨li.nd, li.h0, li.rch, fun i' hi' r' hr' l' hS => ?_⟩, lim, by omega, eM, eWa, Sa.mono (by omega), ba⟩
        by_cases c2 : i' = i
        · subst c2
          rw [hr] at hr'
          cases hr'
          exact hcl l' l'.2 hS
        · exact li.cl i' (by omega) r' hr' l' hS
    · rintro σ Ha ⟨ms, v4, v5, v6, rfl, li, lim, lmi, eM, eWa, Sa, ba⟩
      simp only [tSeq, tIfS, tOr, tAnd, tB, tTest, tCB, tCons, tVar, tC, tNil, tNot, tNotV, tRet, tRetN, tNext, tBreak, tOrV, tAndV, tOp, tUn, rEq, rNe, tChain, rI0, rI, rU, tAsg, gName, tDrop, tAug, ipI, tIf, tCall, tCallS, tLst, tTup, tBM, tBM0, rAppend, rExtend, rPop, rReverse, tyV, rIxL, rIxT, rIxS, rIsB, rNotB, L2.start, List.map_cons, List.map_nil, List.length_cons, List.length_nil, List.replicate, List.cons_append, List.nil_append, List.append_nil, List.getElem?_cons_zero, List.getElem?_cons_succ, List.set_cons_zero, List.set_cons_succ, Nat.reduceAdd, Nat.reduceSub, Option.some.injEq, exists_eq_left', exists_eq_left, V.int.injEq, V.bl.injEq, V.str.injEq, V.ref.injEq, List.cons.injEq, and_true, true_and, and_assoc, reduceCtorEq, false_and, exists_false, or_false, false_or, exists_and_left, exists_const, scal, Int.reduceLT, Int.reduceLE, Int.reduceSub, Int.reduceAdd, Int.reduceNeg, if_true, if_false]
      exact fin ms 201 Ha li (by omega) (.inr (by omega)) eM (Sa.mono (by omega)) ba


end
end K32

namespace K32
open PySem PySem.Spec PyProof.Rows L2 Cox
section
variable {P : Program} {w : World} {K : PySem.W.Frag} {mg : Str → Option Value} {base : Heap} {cx : Xs}
def spTold (K : PySem.W.Frag) : Sp := fun vs H Q _ => ∃ (which : Nat) (o l : Addr) (a b c : Nat) (us : List W), vs = [.int (which : Nat), .ref o, .ref l] ∧ which < 3 ∧ Og K H o a b c ∧ H l = some (.lst ((us.map wS).map V.str)) ∧ (∀ u ∈ us, u.length ≤ 60) ∧
  (us = [] → ∀ H', Same H H' → Q (.str "none") H') ∧ (us ≠ [] → 60 < us.length → ∀ H', Same H H' → Q (.str "large") H') ∧
  (us.length ≤ 60 → ∀ u0, us[0]? = some u0 → (nfw a b c u0).length ≤ 50 ∧
    (which = 0 → (∀ rs : List W, rs.Nodup → (∀ r ∈ rs, HullC a b c us u0 r) → 200 < rs.length → ∀ H', Same H H' → Q (.str "large") H') ∧
      (∀ (ys : List W) L H', ys.Nodup → ys.Pairwise ole → (∀ y, y ∈ ys ↔ HullC a b c us u0 y) → ys.length ≤ 200 → H L = none → H' L = some (.lst ((ys.map wS).map V.str)) → Same H H' → Q (.ref L) H')) ∧
    (which = 1 → (∀ rs : List W, rs.Nodup → (∀ r ∈ rs, HullC a b c us u0 r) → 200 < rs.length → ∀ H', Same H H' → Q (.str "large") H') ∧
      (∀ (rs ds : List W) H', rs.Nodup → (∀ y, y ∈ rs ↔ HullC a b c us u0 y) → rs.length ≤ 200 → ds.Nodup → (∀ y, y ∈ ds ↔ ∃ u ∈ us, nfw a b c u = y) → Same H H' → Q (.bl (decide (ds.length = rs.length))) H')) ∧
    (which = 2 → (∀ rs : List W, rs.Nodup → (∀ r ∈ rs, HullC a b c us u0 r) → 60 < rs.length → ∀ H', Same H H' → Q (.str "large") H') ∧
      (∀ (rs : List W), rs.Nodup → (∀ y, y ∈ rs ↔ HullC a b c us u0 y) → rs.length ≤ 60 → (∀ r ∈ rs, r.length ≤ 60) ∧ ∀ ts : List W, ts.Perm rs → ts.Pairwise ole → ∀ p Lt H', Same H H' → H' p = some (.tup [.ref o, .ref Lt]) → H' Lt = some (.tup ((ts.map wS).map V.str)) → Q (.ref p) H')))
theorem ok_law_told (T : Txt K mg cx) : FK.Has P w K mg base CX0 11 "_law_told" ["which", "orders", "words"] (spTold K) := by
  have H_hull := ok_hull (P := P) (w := w) (base := base) T
  have H_is_convex := ok_is_convex (P := P) (w := w) (base := base) T
  have H_hull_polygon := ok_hull_polygon (P := P) (w := w) (base := base) T
  refine T.d_law_told.ok sc_law_told (fun vs H Q E h => ?_) (fun f cdv A outer s H vs Q E hr h => ?_)
  · obtain ⟨which, o, l, a, b, c, us, rfl, _⟩ := h
    rfl
  · obtain ⟨which, o, l, a, b, c, us, rfl, h3, G, hL, hus, qN, qL, q⟩ := h
    refine ⟨_, (pss_one (FK.ps_try_manyN rfl rfl takes0 (fun W pn xe tk po => (pss_cons (ps_if (pt_cmpR op_eq (pv 0) pe_int (nomark _)) (pss_one (ps_ret (FK.pe_hS H_hull (hr.mono (by decide)) (fun σ => passAt tk σ) (pa_cons (pv 1) (pa_cons (pv 2) pa_nil))))) pss_nil)
  (pss_cons (ps_if (pt_cmpR op_eq (pv 0) pe_int (nomark _)) (pss_one (ps_ret (FK.pe_hS H_is_convex (hr.mono (by decide)) (fun σ => passAt tk σ) (pa_cons (pv 1) (pa_cons (pv 2) pa_nil))))) pss_nil)
  (pss_one (ps_ret (FK.pe_hS H_hull_polygon (hr.mono (by decide)) (fun σ => passAt tk σ) (pa_cons (pv 1) (pa_cons (pv 2) pa_nil)))))))) (FK.HdsN.cons ⟨rfl, by decide, .inl T.x_NoAnswer.g⟩ (fun a oe cls dd pn hz hf => (pss_one (ps_ret pe_str))) (FK.HdsN.consAs (i := 3) sc_law_told.nd rfl rfl ⟨rfl, by decide, .inl T.x_TooLarge.g⟩ (fun a oe cls dd pn hz hf => (pss_one (ps_ret (pe_ifExp (pt_not (pt_val (pe_callB (FK.call_isEx hz hf) (by rfl) T.n_isinstance (by decide +kernel) (pa_cons (pv 3) (pa_cons (pe_glob (v := .ref cx.NotPolygon) rfl T.x_NotPolygon.g rfl) pa_nil))))) pe_str pe_str)))) FK.HdsN.nil)))), ?_⟩
    match which, h3 with
    | 0, _ =>
      simp only [tSeq, tIfS, tOr, tAnd, tB, tTest, tCB, tCons, tVar, tC, tNil, tNot, tNotV, tRet, tRetN, tNext, tBreak, tOrV, tAndV, tOp, tUn, rEq, rNe, tChain, rI0, rI, rU, tAsg, gName, tDrop, tAug, ipI, tIf, tCall, tCallS, tLst, tTup, tBM, tBM0, rAppend, rExtend, rPop, rReverse, tyV, rIxL, rIxT, rIxS, rIsB, rNotB, L2.start, List.map_cons, List.map_nil, List.length_cons, List.length_nil, List.replicate, List.cons_append, List.nil_append, List.append_nil, List.getElem?_cons_zero, List.getElem?_cons_succ, List.set_cons_zero, List.set_cons_succ, Nat.reduceAdd, Nat.reduceSub, Option.some.injEq, exists_eq_left', exists_eq_left, V.int.injEq, V.bl.injEq, V.str.injEq, V.ref.injEq, List.cons.injEq, and_true, true_and, and_assoc, reduceCtorEq, false_and, exists_false, or_false, false_or, exists_and_left, exists_const, scal, Int.reduceLT, Int.reduceLE, Int.reduceSub, Int.reduceAdd, Int.reduceNeg, if_true, if_false, FK.wManyN, FK.Ends.gone]
      refine iteT' (by decide) ?_
      refine ⟨o, l, a, b, c, us, rfl, G, hL, hus, fun e H1 s1 => ?_, fun e e2 H1 s1 => ?_, fun le u0 h0 => ⟨(q le u0 h0).1, fun rs nd hr hl H1 s1 => ?_, ((q le u0 h0).2.1 rfl).2⟩⟩
      · exact ⟨true, T.exm_NoAnswer_NoAnswer, fun _ a ha => qN e H1 s1, fun z => nomatch z⟩
      · exact ⟨false, T.exm_TooLarge_NoAnswer, (fun z => nomatch z), fun _ => ⟨true, T.exm_TooLarge_TooLarge, fun _ a ha => ⟨V.ref a, rfl, cx.TooLarge, rfl, rfl, T.x_TooLarge.e, .ref cx.NotPolygon, _, false, rfl, fun u r => r, T.kit_TooLarge_NotPolygon, false, rfl, iteT' rfl (qL e e2 H1 s1)⟩, fun z => nomatch z⟩⟩
      · exact ⟨false, T.exm_TooLarge_NoAnswer, (fun z => nomatch z), fun _ => ⟨true, T.exm_TooLarge_TooLarge, fun _ a ha => ⟨V.ref a, rfl, cx.TooLarge, rfl, rfl, T.x_TooLarge.e, .ref cx.NotPolygon, _, false, rfl, fun u r => r, T.kit_TooLarge_NotPolygon, false, rfl, iteT' rfl (((q le u0 h0).2.1 rfl).1 rs nd hr hl H1 s1)⟩, fun z => nomatch z⟩⟩
    | 1, _ =>
      simp only [tSeq, tIfS, tOr, tAnd, tB, tTest, tCB, tCons, tVar, tC, tNil, tNot, tNotV, tRet, tRetN, tNext, tBreak, tOrV, tAndV, tOp, tUn, rEq, rNe, tChain, rI0, rI, rU, tAsg, gName, tDrop, tAug, ipI, tIf, tCall, tCallS, tLst, tTup, tBM, tBM0, rAppend, rExtend, rPop, rReverse, tyV, rIxL, rIxT, rIxS, rIsB, rNotB, L2.start, List.map_cons, List.map_nil, List.length_cons, List.length_nil, List.replicate, List.cons_append, List.nil_append, List.append_nil, List.getElem?_cons_zero, List.getElem?_cons_succ, List.set_cons_zero, List.set_cons_succ, Nat.reduceAdd, Nat.reduceSub, Option.some.injEq, exists_eq_left', exists_eq_left, V.int.injEq, V.bl.injEq, V.str.injEq, V.ref.injEq, List.cons.injEq, and_true, true_and, and_assoc, reduceCtorEq, false_and, exists_false, or_false, false_or, exists_and_left, exists_const, scal, Int.reduceLT, Int.reduceLE, Int.reduceSub, Int.reduceAdd, Int.reduceNeg, if_true, if_false, FK.wManyN, FK.Ends.gone]
      refine iteF' (by decide) (iteT' (by decide) ?_)
      refine ⟨o, l, a, b, c, us, rfl, G, hL, hus, fun e H1 s1 => ?_, fun e e2 H1 s1 => ?_, fun le u0 h0 => ⟨(q le u0 h0).1, fun rs nd hr hl H1 s1 => ?_, ((q le u0 h0).2.2.1 rfl).2⟩⟩
      · exact ⟨true, T.exm_NoAnswer_NoAnswer, fun _ a ha => qN e H1 s1, fun z => nomatch z⟩
      · exact ⟨false, T.exm_TooLarge_NoAnswer, (fun z => nomatch z), fun _ => ⟨true, T.exm_TooLarge_TooLarge, fun _ a ha => ⟨V.ref a, rfl, cx.TooLarge, rfl, rfl, T.x_TooLarge.e, .ref cx.NotPolygon, _, false, rfl, fun u r => r, T.kit_TooLarge_NotPolygon, false, rfl, iteT' rfl (qL e e2 H1 s1)⟩, fun z => nomatch z⟩⟩
      · exact ⟨false, T.exm_TooLarge_NoAnswer, (fun z => nomatch z), fun _ => ⟨true, T.exm_TooLarge_TooLarge, fun _ a ha => ⟨V.ref a, rfl, cx.TooLarge, rfl, rfl, T.x_TooLarge.e, .ref cx.NotPolygon, _, false, rfl, fun u r => r, T.kit_TooLarge_NotPolygon, false, rfl, iteT' rfl (((q le u0 h0).2.2.1 rfl).1 rs nd hr hl H1 s1)⟩, fun z => nomatch z⟩⟩
    | 2, _ =>
      simp only [tSeq, tIfS, tOr, tAnd, tB, tTest, tCB, tCons, tVar, tC, tNil, tNot, tNotV, tRet, tRetN, tNext, tBreak, tOrV, tAndV, tOp, tUn, rEq, rNe, tChain, rI0, rI, rU, tAsg, gName, tDrop, tAug, ipI, tIf, tCall, tCallS, tLst, tTup, tBM, tBM0, rAppend, rExtend, rPop, rReverse, tyV, rIxL, rIxT, rIxS, rIsB, rNotB, L2.start, List.map_cons, List.map_nil, List.length_cons, List.length_nil, List.replicate, List.cons_append, List.nil_append, List.append_nil, List.getElem?_cons_zero, List.getElem?_cons_succ, List.set_cons_zero, List.set_cons_succ, Nat.reduceAdd, Nat.reduceSub, Option.some.injEq, exists_eq_left', exists_eq_left, V.int.injEq, V.bl.injEq, V.str.injEq, V.ref.injEq, List.cons.injEq, and_true, true_and, and_assoc, reduceCtorEq, false_and, exists_false, or_false, false_or, exists_and_left, exists_const, scal, Int.reduceLT, Int.reduceLE, Int.reduceSub, Int.reduceAdd, Int.reduceNeg, if_true, if_false, FK.wManyN, FK.Ends.gone]
      refine iteF' (by decide) (iteF' (by decide) ?_)
      refine ⟨o, l, a, b, c, us, rfl, G, hL, hus, fun e H1 s1 => ?_, fun e e2 H1 s1 => ?_, fun le u0 h0 => ⟨(q le u0 h0).1, fun rs nd hr hl H1 s1 => ?_, ((q le u0 h0).2.2.2 rfl).2⟩⟩
      · exact ⟨true, T.exm_NoAnswer_NoAnswer, fun _ a ha => qN e H1 s1, fun z => nomatch z⟩
      · exact ⟨false, T.exm_TooLarge_NoAnswer, (fun z => nomatch z), fun _ => ⟨true, T.exm_TooLarge_TooLarge, fun _ a ha => ⟨V.ref a, rfl, cx.TooLarge, rfl, rfl, T.x_TooLarge.e, .ref cx.NotPolygon, _, false, rfl, fun u r => r, T.kit_TooLarge_NotPolygon, false, rfl, iteT' rfl (qL e e2 H1 s1)⟩, fun z => nomatch z⟩⟩
      · exact ⟨false, T.exm_TooLarge_NoAnswer, (fun z => nomatch z), fun _ => ⟨true, T.exm_TooLarge_TooLarge, fun _ a ha => ⟨V.ref a, rfl, cx.TooLarge, rfl, rfl, T.x_TooLarge.e, .ref cx.NotPolygon, _, false, rfl, fun u r => r, T.kit_TooLarge_NotPolygon, false, rfl, iteT' rfl (((q le u0 h0).2.2.2 rfl).1 rs nd hr hl H1 s1)⟩, fun z => nomatch z⟩⟩

end
end K32

namespace K32
open PySem PySem.Spec PyProof.Rows L2 Cox
section
variable {P : Program} {w : World} {K : PySem.W.Frag} {mg : Str → Option Value} {base : Heap} {cx : Xs}
theorem fine_w (u : W) : FK.Fine (.str (wS u)) u.length 0 := by
  have h := FK.Fine.str (x := wS u) fun c hc => by
    rw [wS_list] at hc
    obtain ⟨i, _, rfl⟩ := List.mem_map.mp hc
    have := i.2
    omega
  rwa [wS_len] at h
def polyD (x y z : Nat) (us : List W) : PyData := .tuple [.tuple [.int (x : Nat), .int (y : Nat), .int (z : Nat)], .tuple ((us.map wS).map PyData.str)]
theorem dp_poly {H : Hp} {o p Lt : Addr} {x y z : Nat} {us : List W} (hp : H p = some (.tup [.ref o, .ref Lt])) (ho : SqT K H o [.int (x : Nat), .int (y : Nat), .int (z : Nat)]) (ht : H Lt = some (.tup ((us.map wS).map V.str))) : Dp K H (.ref p) (polyD x y z us) :=
  .tup (SqT.of hp) (.cons (.tup ho (.cons (.int _) (.cons (.int _) (.cons (.int _) .nil)))) (.cons (.tup (SqT.of ht) (FK.dpAll_strs _)) .nil))
theorem ord_small {x : Nat} (h : okOrd x) : x < 10 ^ 13 := by
  rcases h with h | ⟨_, h⟩
  · rw [h]; decide
  · exact Nat.lt_of_le_of_lt h (by decide)
theorem fine_poly {x y z : Nat} {us : List W} (hx : okOrd x) (hy : okOrd y) (hz : okOrd z) (hn : us.length ≤ 60) (hu : ∀ u ∈ us, u.length ≤ 60) : FK.Fine (polyD x y z us) 5000 2 := by
  have f0 := FK.FineAll.nil.mono (Nat.le_refl 0) (Nat.le_refl 0)
  have h1 := FK.Fine.tup (FK.FineAll.cons (FK.Fine.nat (ord_small hx)) (FK.FineAll.cons (FK.Fine.nat (ord_small hy)) (FK.FineAll.cons (FK.Fine.nat (ord_small hz)) f0)))
  have h := FK.FineAll.of (b := 60) (k := 0) (ds := (us.map wS).map PyData.str) fun d hd => by
    obtain ⟨t, ht, rfl⟩ := List.mem_map.mp hd
    obtain ⟨u, hu', rfl⟩ := List.mem_map.mp ht
    exact (fine_w u).mono (hu u hu') (Nat.le_refl _)
  have h2 := FK.Fine.tup h
  have h3 := FK.FineAll.cons h1 (FK.FineAll.cons h2 (FK.FineAll.nil.mono (Nat.le_refl 0) (Nat.zero_le 1)))
  refine (FK.Fine.tup h3).mono ?_ (Nat.le_refl _)
  rw [List.length_map, List.length_map]
  omega
/-- orders, Tiles, the words and their hull stand -/
structure Bs (K : PySem.W.Frag) (CT CF : Addr) (H : Hp) (o t f n d : Addr) (x y z k : Nat) (l L : Addr) (us ys : List W) : Prop where
  sv : Sv K CT CF H o t f n d x y z k
  el : H l = some (.lst ((us.map wS).map V.str))
  eL : H L = some (.lst ((ys.map wS).map V.str))
theorem Bs.same {CT CF : Addr} {H H' : Hp} {o t f n d l L : Addr} {x y z k : Nat} {us ys : List W} (h : Bs K CT CF H o t f n d x y z k l L us ys) (s : Same H H') : Bs K CT CF H' o t f n d x y z k l L us ys := ⟨h.sv.same s, s _ _ h.el, s _ _ h.eL⟩
theorem Bs.mono {CT CF : Addr} {H : Hp} {o t f n d l L : Addr} {x y z k j : Nat} {us ys : List W} (h : Bs K CT CF H o t f n d x y z k l L us ys) (hk : k ≤ j) : Bs K CT CF H o t f n d x y z j l L us ys := ⟨h.sv.mono hk, h.el, h.eL⟩
theorem Bs.nrm {CT CF : Addr} {H H' : Hp} {o t f n d l L : Addr} {x y z k k' : Nat} {us ys : List W} (h : Bs K CT CF H o t f n d x y z k l L us ys) (tl : TlAt K CT CF H' t f n o d x y z k') (b : But2 d n H H') : Bs K CT CF H' o t f n d x y z k' l L us ys := ⟨h.sv.nrm tl b, h.sv.lst b h.el, h.sv.lst b h.eL⟩
theorem Bs.updL {CT CF : Addr} {H : Hp} {o t f n d l L D : Addr} {x y z k : Nat} {us ys : List W} {p q : List V} (h : Bs K CT CF H o t f n d x y z k l L us ys) (hD : H D = some (.lst p)) (n1 : l ≠ D) (n2 : L ≠ D) : Bs K CT CF (L2.upd H D (.lst q)) o t f n d x y z k l L us ys := ⟨h.sv.updL hD, by rw [upd_ne n1]; exact h.el, by rw [upd_ne n2]; exact h.eL⟩
theorem words_of {p : W → Prop} : ∀ {zs : List V}, (∀ z ∈ zs, ∃ u : W, z = .str (wS u) ∧ p u) → ∃ us : List W, zs = (us.map wS).map V.str ∧ ∀ u ∈ us, p u
  | [], _ => ⟨[], rfl, fun _ h => nomatch h⟩
  | z :: zs, h => by
    obtain ⟨u, rfl, hu⟩ := h z List.mem_cons_self
    obtain ⟨us, rfl, hus⟩ := words_of fun z hz => h z (List.mem_cons_of_mem _ hz)
    exact ⟨u :: us, rfl, fun v hv => by
      rcases List.mem_cons.mp hv with rfl | hv
      · exact hu
      · exact hus v hv⟩
theorem cdiv3 (r : Int) : CDiv r 3 := ⟨by decide, by decide⟩
theorem cut_60 (xs : List V) : cutV xs none (some 60) = xs.take 60 := by
  unfold cutV
  have h0 : HT.sIx xs.length 0 none = 0 := rfl
  rw [h0, List.drop_zero]
  rcases Nat.lt_or_ge xs.length 60 with c | c
  · have h1 : xs.length ≤ HT.sIx xs.length xs.length (some 60) - 0 ∨ True := .inr trivial
    rw [List.take_of_length_le (show xs.length ≤ 60 by omega)]
    refine List.take_of_length_le ?_
    unfold HT.sIx
    simp
    omega
  · rw [show HT.sIx xs.length xs.length (some (60 : Int)) = 60 from sIx_nat xs.length xs.length 60 c]
theorem fine_large : FK.Fine (.str "large") 5 0 := FK.Fine.str (x := "large") (by decide)
theorem told_n {H : Hp} {o l : Addr} {x y z w : Nat} {Q : VK} {E : XK} (hw : w < 3) (G : Og K H o x y z) (hL : H l = some (.lst [])) (q : ∀ H', Same H H' → Q (.str "none") H') : spTold K [.int (w : Nat), .ref o, .ref l] H Q E :=
  ⟨w, o, l, x, y, z, [], rfl, hw, G, hL, (fun _ h => nomatch h), (fun _ => q), (fun h => absurd rfl h), fun _ u0 h => nomatch h⟩
theorem told_l {H : Hp} {o l : Addr} {x y z w : Nat} {us : List W} {Q : VK} {E : XK} (hw : w < 3) (G : Og K H o x y z) (hL : H l = some (.lst ((us.map wS).map V.str))) (hu : ∀ u ∈ us, u.length ≤ 60) (h60 : 60 < us.length) (q : ∀ H', Same H H' → Q (.str "large") H') : spTold K [.int (w : Nat), .ref o, .ref l] H Q E :=
  ⟨w, o, l, x, y, z, us, rfl, hw, G, hL, hu, (fun e => by rw [e] at h60; cases h60), (fun _ _ => q), fun h => by omega⟩
theorem ok_law (T : Txt K mg cx) {fa : Addr} {s : Shared} {H : Hp} {a : Addr} {ns : List Int} (g : mg "law" = some (.ref fa)) (hr1 : Room 13 callerA) (e0 : Env0 P w K mg base callerA [] s H) (sq : SqL K H a (ns.map V.int)) (hl : ns.length ≤ 63) :
    codeAny (model P w) callerA (.call (.ref fa) ⟨[.ref a], []⟩) (CR CX0 [] P w H s (fun v _ => v = .bl true) E0) s := by
  have H_law_cell := ok_law_cell (P := P) (w := w) (base := base) T
  have H_law_orders := ok_law_orders (P := P) (w := w) (base := base) T
  have H_law_word := ok_law_word (P := P) (w := w) (base := base) T
  have H_law_told := ok_law_told (P := P) (w := w) (base := base) T
  have H_law_hull := ok_law_hull (P := P) (w := w) (base := base) T
  have H_Tiles_init := ok_Tiles_init (P := P) (w := w) (mg := mg) (base := base) T
  have H_Tiles_normal := ok_Tiles_normal (P := P) (w := w) (mg := mg) (base := base) T
  refine T.d_law.run (vs := [.ref a]) g sc_law hr1 e0 (.cons rfl .nil) rfl fun cdv hr hG => ?_
  refine ⟨_, (C8.pss_cut (ps_set (i := 1) sc_law.nd rfl (Or.inl rfl) (by exact (FK.pe_h (E := E0) H_law_orders (hr.mono (by decide)) pass0 (pa_cons (FK.pe_h (E := E0) H_law_cell (hr.mono (by decide)) pass0 (pa_cons (pv 0) (pa_cons pe_int pa_nil))) pa_nil))))
  (C8.pss_cut (ps_set (i := 2) sc_law.nd rfl (Or.inl rfl) (by exact (FK.pe_i (E := E0) H_Tiles_init (hr.mono (by decide)) T.g_Tiles FK.pass1 (pa_cons (pv 1) pa_nil))))
  (C8.pss_cut (ps_set (i := 3) sc_law.nd rfl (Or.inr rfl) (by exact pe_int))
  (C8.pss_cut (ps_if (pt_cmpR op_eq (pe_op op_mod (pe_op op_fdiv (FK.pe_h (E := E0) H_law_cell (hr.mono (by decide)) pass0 (pa_cons (pv 0) (pa_cons pe_int pa_nil))) pe_int) pe_int) pe_int (nomark _)) (pss_one (ps_set (i := 3) sc_law.nd rfl (Or.inr rfl) (by exact pe_int))) pss_nil)
  (C8.pss_cut (ps_setLc (i := 4) (own := [("k", 12)]) (g := gName 12) (tt := tYes) rfl sc_law.nd rfl rfl (sw_true rfl rfl rfl (by decide +kernel)) (pi_range1 rfl T.n_range (pa_cons (pe_op op_add pe_int (pe_op op_mod (FK.pe_h (E := E0) H_law_cell (hr.mono (by decide)) pass0 (pa_cons (pv 0) (pa_cons pe_int pa_nil))) pe_int)) pa_nil)) (blkOk_by (own := [("k", 12)]) (N := ["script", "orders", "floor", "most", "words", "due", "large", "tiles", "word", "told", "polygon", "which", "k"]) (sc := defScope s_law) (by decide +kernel)) (fun _ _ _ _ _ => (pg_name (i := 12) sc_law.nd rfl (Or.inl rfl))) (fun _ _ _ _ _ => pts_nil) (fun _ _ _ _ _ => (FK.pe_h (E := E0) H_law_word (hr.mono (by decide)) pass0 (pa_cons (FK.pe_h (E := E0) H_law_cell (hr.mono (by decide)) pass0 (pa_cons (pv 0) (pa_cons (pe_op op_add pe_int (pv 12)) pa_nil))) (pa_cons (pv 3) pa_nil)))))
  (C8.pss_cut (ps_set (i := 5) sc_law.nd rfl (Or.inl rfl) (by exact (FK.pe_h (E := E0) H_law_hull (hr.mono (by decide)) pass0 (pa_cons (pv 2) (pa_cons (pv 4) pa_nil)))))
  (C8.pss_cut (ps_set (i := 6) sc_law.nd rfl (Or.inl rfl) (by exact (pe_cmpR op_gt (pe_callB call_len_seq (by rfl) T.n_len PySem.boot_len (pa_cons (pv 5) pa_nil)) pe_int (nomark _))))
  (C8.pss_cut (ps_if (pt_cmpR op_ne (pe_callB (FK.call_repr hG hr) (by rfl) T.n_repr (by decide +kernel) (pa_cons (FK.pe_h (E := E0) H_law_told (hr.mono (by decide)) pass0 (pa_cons pe_int (pa_cons (pv 1) (pa_cons (pv 4) pa_nil)))) pa_nil)) (pe_callB (FK.call_repr hG hr) (by rfl) T.n_repr (by decide +kernel) (pa_cons (pe_ifExp (pt_val (pv 6)) pe_str (pv 5)) pa_nil)) (nomark _)) (pss_one (ps_ret pe_bl)) pss_nil)
  (C8.pss_cut (ps_set (i := 7) sc_law.nd rfl (Or.inl rfl) (by exact (pe_lst pa_nil)))
  (C8.pss_cut (ps_for PassesOwn.never rfl (pi_list (pv 4)) (pg_name (i := 8) sc_law.nd rfl (Or.inl rfl))
  (pss_one (ps_if (pt_cmpR (show OpR _ (compareOp .NotIn) (rIn K true) from op_notIn_seq) (FK.pe_m (E := E0) (pv 2) T.cl_Tiles H_Tiles_normal (hr.mono (by decide)) FK.pass1 (pa_cons (pv 8) pa_nil)) (pv 7) (by rfl)) (pss_one (ps_expr (pe_bm PySem.F.plainAttrs_list PySem.F.slot_list_append PySem.F.type_list_append mt_append (pv 7) (pa_cons (FK.pe_m (E := E0) (pv 2) T.cl_Tiles H_Tiles_normal (hr.mono (by decide)) FK.pass1 (pa_cons (pv 8) pa_nil)) pa_nil)))) pss_nil)))
  (C8.pss_cut (ps_set (i := 9) sc_law.nd rfl (Or.inl rfl) (by exact (FK.pe_h (E := E0) H_law_told (hr.mono (by decide)) pass0 (pa_cons pe_int (pa_cons (pv 1) (pa_cons (pv 4) pa_nil))))))
  (C8.pss_cut (ps_if (pt_cmpR op_ne (pe_callB (FK.call_repr hG hr) (by rfl) T.n_repr (by decide +kernel) (pa_cons (pv 9) pa_nil)) (pe_callB (FK.call_repr hG hr) (by rfl) T.n_repr (by decide +kernel) (pa_cons (pe_ifExp (pt_val (pv 6)) pe_str (pe_cmpR op_eq (pe_callB call_len_seq (by rfl) T.n_len PySem.boot_len (pa_cons (pv 7) pa_nil)) (pe_callB call_len_seq (by rfl) T.n_len PySem.boot_len (pa_cons (pv 5) pa_nil)) (nomark _))) pa_nil)) (nomark _)) (pss_one (ps_ret pe_bl)) pss_nil)
  (C8.pss_cut (ps_if (PW.pt (pw_and (pt_not (pt_val (pv 6))) (pw_and (pt_cmpR op_notBl (FK.pe_h (E := E0) H_law_told (hr.mono (by decide)) pass0 (pa_cons pe_int (pa_cons (pv 1) (pa_cons (pe_slice sl_list (pv 5) po_none (po_some pe_int)) pa_nil)))) pe_bl (nomark _)) (pw_and1 (pt_cmpR op_le (pe_callB call_len_seq (by rfl) T.n_len PySem.boot_len (pa_cons (pv 5) pa_nil)) pe_int (nomark _)))))) (pss_one (ps_ret pe_bl)) pss_nil)
  (C8.pss_cut (ps_set (i := 10) sc_law.nd rfl (Or.inl rfl) (by exact (pe_ifExp (pt_cmpR op_gt (pe_callB call_len_seq (by rfl) T.n_len PySem.boot_len (pa_cons (pv 5) pa_nil)) pe_int (nomark _)) pe_str (pe_tup (pa_cons (pv 1) (pa_cons (pe_callTy call_tuple_of (by rfl) T.n_tuple (by decide +kernel) (pa_cons (pv 5) pa_nil)) pa_nil))))))
  (C8.pss_cut (ps_if (pt_cmpR op_ne (pe_callB (FK.call_repr hG hr) (by rfl) T.n_repr (by decide +kernel) (pa_cons (FK.pe_h (E := E0) H_law_told (hr.mono (by decide)) pass0 (pa_cons pe_int (pa_cons (pv 1) (pa_cons (pv 4) pa_nil)))) pa_nil)) (pe_callB (FK.call_repr hG hr) (by rfl) T.n_repr (by decide +kernel) (pa_cons (pv 10) pa_nil)) (nomark _)) (pss_one (ps_ret pe_bl)) pss_nil)
  (C8.pss_cut (ps_for PassesOwn.never rfl (pi_range1 rfl T.n_range (pa_cons pe_int pa_nil)) (pg_name (i := 11) sc_law.nd rfl (Or.inl rfl))
  (pss_one (ps_if (PW.pt (pw_or (pt_cmpR op_ne (FK.pe_h (E := E0) H_law_told (hr.mono (by decide)) pass0 (pa_cons (pv 11) (pa_cons (pv 1) (pa_cons (pe_lst pa_nil) pa_nil)))) pe_str (nomark _)) (pw_or1 (pt_cmpR op_ne (FK.pe_h (E := E0) H_law_told (hr.mono (by decide)) pass0 (pa_cons (pv 11) (pa_cons (pv 1) (pa_cons (pe_op op_rep (pe_lst (pa_cons pe_str pa_nil)) pe_int) pa_nil)))) pe_str (nomark _))))) (pss_one (ps_ret pe_bl)) pss_nil)))
  (pss_one (ps_ret pe_bl)))))))))))))))))), ?_⟩
  generalize hxs : ns.map V.int = xs at sq
  refine ⟨fun σ H => ∃ (o : Addr) (x y z : Nat), σ = [some (.ref a), some (.ref o), none, none, none, none, none, none, none, none, none, none, none] ∧ Og K H o x y z ∧ Scr K H a xs, ?_, ?_⟩
  · simp only [tSeq, tIfS, tOr, tAnd, tB, tTest, tCB, tCons, tVar, tC, tNil, tNot, tNotV, tRet, tRetN, tNext, tBreak, tOrV, tAndV, tOp, tUn, rEq, rNe, tChain, rI0, rI, rU, tAsg, gName, tDrop, tAug, ipI, tIf, tCall, tCallS, tLst, tTup, tBM, tBM0, rAppend, rExtend, rPop, rReverse, tyV, rIxL, rIxT, rIxS, rIsB, rNotB, L2.start, List.map_cons, List.map_nil, List.length_cons, List.length_nil, List.replicate, List.cons_append, List.nil_append, List.append_nil, List.getElem?_cons_zero, List.getElem?_cons_succ, List.set_cons_zero, List.set_cons_succ, Nat.reduceAdd, Nat.reduceSub, Option.some.injEq, exists_eq_left', exists_eq_left, V.int.injEq, V.bl.injEq, V.str.injEq, V.ref.injEq, List.cons.injEq, and_true, true_and, and_assoc, reduceCtorEq, false_and, exists_false, or_false, false_or, exists_and_left, exists_const, scal, Int.reduceLT, Int.reduceLE, Int.reduceSub, Int.reduceAdd, Int.reduceNeg, if_true, if_false]
    subst hxs
    exact ⟨_, _, 0, rfl, sq, fun i => ⟨i, rfl, fun o x y z H' hx hy hz hn ho s1 => ⟨o, rfl, x, y, z, ⟨ho, hx, hy, hz⟩, (Scr.of sq).same s1⟩⟩⟩
  rintro σ H1 ⟨o, x, y, z, rfl, G1, sc1⟩
  have cell : ∀ {H' : Hp} (k : Nat) {Q : VK}, Scr K H' a xs → (∀ i, Q (.int i) H') → spCell K [.ref a, .int (k : Int)] H' Q E0 := fun k Q h q => ⟨a, ns, k, rfl, by rw [hxs]; exact h.sq, q⟩
  refine ⟨fun σ H => ∃ (t f n d : Addr), σ = [some (.ref a), some (.ref o), some (.ref t), none, none, none, none, none, none, none, none, none, none] ∧ Lw K cx.Tiles cx.Floor H o t f n d x y z 0 a xs, ?_, ?_⟩
  · simp only [tSeq, tIfS, tOr, tAnd, tB, tTest, tCB, tCons, tVar, tC, tNil, tNot, tNotV, tRet, tRetN, tNext, tBreak, tOrV, tAndV, tOp, tUn, rEq, rNe, tChain, rI0, rI, rU, tAsg, gName, tDrop, tAug, ipI, tIf, tCall, tCallS, tLst, tTup, tBM, tBM0, rAppend, rExtend, rPop, rReverse, tyV, rIxL, rIxT, rIxS, rIsB, rNotB, L2.start, List.map_cons, List.map_nil, List.length_cons, List.length_nil, List.replicate, List.cons_append, List.nil_append, List.append_nil, List.getElem?_cons_zero, List.getElem?_cons_succ, List.set_cons_zero, List.set_cons_succ, Nat.reduceAdd, Nat.reduceSub, Option.some.injEq, exists_eq_left', exists_eq_left, V.int.injEq, V.bl.injEq, V.str.injEq, V.ref.injEq, List.cons.injEq, and_true, true_and, and_assoc, reduceCtorEq, false_and, exists_false, or_false, false_or, exists_and_left, exists_const, scal, Int.reduceLT, Int.reduceLE, Int.reduceSub, Int.reduceAdd, Int.reduceNeg, if_true, if_false, tMake]
    refine fun t dx ht hdx ne => ⟨t, o, dx, x, y, z, rfl, upd_same, ?_, fun f n d H' Tl hn hd fr => ?_⟩
    · exact G1.same ((FK.same_new hdx).trans (FK.same_new (by rw [upd_ne ne.symm]; exact ht)))
    · exact ⟨rfl, f, n, d, lw_new G1 sc1 ht ((FK.same_new hdx).trans (FK.same_new (by rw [upd_ne ne.symm]; exact ht))) Tl fr⟩
  rintro σ H2 ⟨t, f, n, d, rfl, W2⟩
  refine ⟨fun σ H => σ = [some (.ref a), some (.ref o), some (.ref t), some (V.int 5), none, none, none, none, none, none, none, none, none] ∧ Lw K cx.Tiles cx.Floor H o t f n d x y z 0 a xs, ?_, ?_⟩
  · simp only [tSeq, tIfS, tOr, tAnd, tB, tTest, tCB, tCons, tVar, tC, tNil, tNot, tNotV, tRet, tRetN, tNext, tBreak, tOrV, tAndV, tOp, tUn, rEq, rNe, tChain, rI0, rI, rU, tAsg, gName, tDrop, tAug, ipI, tIf, tCall, tCallS, tLst, tTup, tBM, tBM0, rAppend, rExtend, rPop, rReverse, tyV, rIxL, rIxT, rIxS, rIsB, rNotB, L2.start, List.map_cons, List.map_nil, List.length_cons, List.length_nil, List.replicate, List.cons_append, List.nil_append, List.append_nil, List.getElem?_cons_zero, List.getElem?_cons_succ, List.set_cons_zero, List.set_cons_succ, Nat.reduceAdd, Nat.reduceSub, Option.some.injEq, exists_eq_left', exists_eq_left, V.int.injEq, V.bl.injEq, V.str.injEq, V.ref.injEq, List.cons.injEq, and_true, true_and, and_assoc, reduceCtorEq, false_and, exists_false, or_false, false_or, exists_and_left, exists_const, scal, Int.reduceLT, Int.reduceLE, Int.reduceSub, Int.reduceAdd, Int.reduceNeg, if_true, if_false]
    first | exact ⟨rfl, W2⟩ | exact W2
  rintro σ H2' ⟨rfl, W2'⟩
  refine ⟨fun σ H => ∃ m : Nat, σ = [some (.ref a), some (.ref o), some (.ref t), some (V.int m), none, none, none, none, none, none, none, none, none] ∧ m ≤ 8 ∧ Lw K cx.Tiles cx.Floor H o t f n d x y z 0 a xs, ?_, ?_⟩
  · simp only [tSeq, tIfS, tOr, tAnd, tB, tTest, tCB, tCons, tVar, tC, tNil, tNot, tNotV, tRet, tRetN, tNext, tBreak, tOrV, tAndV, tOp, tUn, rEq, rNe, tChain, rI0, rI, rU, tAsg, gName, tDrop, tAug, ipI, tIf, tCall, tCallS, tLst, tTup, tBM, tBM0, rAppend, rExtend, rPop, rReverse, tyV, rIxL, rIxT, rIxS, rIsB, rNotB, L2.start, List.map_cons, List.map_nil, List.length_cons, List.length_nil, List.replicate, List.cons_append, List.nil_append, List.append_nil, List.getElem?_cons_zero, List.getElem?_cons_succ, List.set_cons_zero, List.set_cons_succ, Nat.reduceAdd, Nat.reduceSub, Option.some.injEq, exists_eq_left', exists_eq_left, V.int.injEq, V.bl.injEq, V.str.injEq, V.ref.injEq, List.cons.injEq, and_true, true_and, and_assoc, reduceCtorEq, false_and, exists_false, or_false, false_or, exists_and_left, exists_const, scal, Int.reduceLT, Int.reduceLE, Int.reduceSub, Int.reduceAdd, Int.reduceNeg, if_true, if_false]
    exact cell 1 W2'.sc fun r => ⟨r, rfl, cdiv3 r, ite2 (fun _ => ⟨8, rfl, by omega, W2'⟩) (fun _ => ⟨5, rfl, by omega, W2'⟩)⟩
  rintro σ H3 ⟨m, rfl, hm, W3⟩
  refine ⟨fun σ H => ∃ (l : Addr) (us : List W) (u0 : W), σ = [some (.ref a), some (.ref o), some (.ref t), some (V.int m), some (.ref l), none, none, none, none, none, none, none, none] ∧ H l = some (.lst ((us.map wS).map V.str)) ∧ us[0]? = some u0 ∧ us.length ≤ 3 ∧ (∀ u ∈ us, u.length ≤ 8) ∧ Lw K cx.Tiles cx.Floor H o t f n d x y z 0 a xs, ?_, ?_⟩
  · simp only [tSeq, tIfS, tOr, tAnd, tB, tTest, tCB, tCons, tVar, tC, tNil, tNot, tNotV, tRet, tRetN, tNext, tBreak, tOrV, tAndV, tOp, tUn, rEq, rNe, tChain, rI0, rI, rU, tAsg, gName, tDrop, tAug, ipI, tIf, tCall, tCallS, tLst, tTup, tBM, tBM0, rAppend, rExtend, rPop, rReverse, tyV, rIxL, rIxT, rIxS, rIsB, rNotB, L2.start, List.map_cons, List.map_nil, List.length_cons, List.length_nil, List.replicate, List.cons_append, List.nil_append, List.append_nil, List.getElem?_cons_zero, List.getElem?_cons_succ, List.set_cons_zero, List.set_cons_succ, Nat.reduceAdd, Nat.reduceSub, Option.some.injEq, exists_eq_left', exists_eq_left, V.int.injEq, V.bl.injEq, V.str.injEq, V.ref.injEq, List.cons.injEq, and_true, true_and, and_assoc, reduceCtorEq, false_and, exists_false, or_false, false_or, exists_and_left, exists_const, scal, Int.reduceLT, Int.reduceLE, Int.reduceSub, Int.reduceAdd, Int.reduceNeg, if_true, if_false]
    refine FK.lc_rng1 ?_
    simp only [tSeq, tIfS, tOr, tAnd, tB, tTest, tCB, tCons, tVar, tC, tNil, tNot, tNotV, tRet, tRetN, tNext, tBreak, tOrV, tAndV, tOp, tUn, rEq, rNe, tChain, rI0, rI, rU, tAsg, gName, tDrop, tAug, ipI, tIf, tCall, tCallS, tLst, tTup, tBM, tBM0, rAppend, rExtend, rPop, rReverse, tyV, rIxL, rIxT, rIxS, rIsB, rNotB, L2.start, List.map_cons, List.map_nil, List.length_cons, List.length_nil, List.replicate, List.cons_append, List.nil_append, List.append_nil, List.getElem?_cons_zero, List.getElem?_cons_succ, List.set_cons_zero, List.set_cons_succ, Nat.reduceAdd, Nat.reduceSub, Option.some.injEq, exists_eq_left', exists_eq_left, V.int.injEq, V.bl.injEq, V.str.injEq, V.ref.injEq, List.cons.injEq, and_true, true_and, and_assoc, reduceCtorEq, false_and, exists_false, or_false, false_or, exists_and_left, exists_const, scal, Int.reduceLT, Int.reduceLE, Int.reduceSub, Int.reduceAdd, Int.reduceNeg, if_true, if_false]
    refine cell 1 W3.sc fun r => ⟨r, rfl, by omega, by omega, ?_⟩
    obtain ⟨mm, hmm, h1, h4⟩ : ∃ mm : Nat, (1 + r % 3).toNat = mm ∧ 1 ≤ mm ∧ mm ≤ 3 := ⟨_, rfl, by omega, by omega⟩
    rw [hmm]
    refine FK.rd_lc (J := Itr 0 mm) (H1 := H3) (fun R r => r) walk_nat (fun k acc H' => (∀ v ∈ acc, ∃ u : W, v = .str (wS u) ∧ u.length ≤ 8) ∧ Same H3 H') (fun D hD => ⟨(fun _ h => nomatch h), FK.same_new hD⟩) (fun D i acc y H' hD hD2 ⟨p1, p2⟩ => ⟨p1, FK.same_at hD p2⟩) (fun _ _ _ _ _ => trivial) (Nat.lt_of_le_of_lt h4 (by decide)) (fun _ => rfl) ?_ ?_
    · rintro D k x' acc Ha Hb R hD hk la ⟨p1, p2⟩ hD2 ⟨rfl, hx⟩ go
      obtain rfl : x' = .int (k : Nat) := hx
      simp only [tSeq, tIfS, tOr, tAnd, tB, tTest, tCB, tCons, tVar, tC, tNil, tNot, tNotV, tRet, tRetN, tNext, tBreak, tOrV, tAndV, tOp, tUn, rEq, rNe, tChain, rI0, rI, rU, tAsg, gName, tDrop, tAug, ipI, tIf, tCall, tCallS, tLst, tTup, tBM, tBM0, rAppend, rExtend, rPop, rReverse, tyV, rIxL, rIxT, rIxS, rIsB, rNotB, L2.start, List.map_cons, List.map_nil, List.length_cons, List.length_nil, List.replicate, List.cons_append, List.nil_append, List.append_nil, List.getElem?_cons_zero, List.getElem?_cons_succ, List.set_cons_zero, List.set_cons_succ, Nat.reduceAdd, Nat.reduceSub, Option.some.injEq, exists_eq_left', exists_eq_left, V.int.injEq, V.bl.injEq, V.str.injEq, V.ref.injEq, List.cons.injEq, and_true, true_and, and_assoc, reduceCtorEq, false_and, exists_false, or_false, false_or, exists_and_left, exists_const, scal, Int.reduceLT, Int.reduceLE, Int.reduceSub, Int.reduceAdd, Int.reduceNeg, if_true, if_false, wipe]
      rw [show (2 : Int) + (k : Nat) = ((2 + k : Nat) : Int) by omega]
      refine cell (2 + k) (W3.sc.same p2) fun i => ⟨i, m, rfl, by omega, fun u H' lu s' => go _ H' (s' _ _ hD2) ⟨fun v hv => ?_, p2.trans s'⟩⟩
      rcases List.mem_append.mp hv with h | h
      · exact p1 v h
      · rw [List.mem_singleton.mp h]
        exact ⟨u, rfl, by omega⟩
    · rintro D acc H' hD la ⟨p1, p2⟩ hD2
      obtain ⟨us, rfl, hus⟩ := words_of p1
      rw [List.length_map, List.length_map] at la
      exact ⟨D, rfl, us, hD2, us[0]'(by omega), List.getElem?_eq_getElem _, by omega, hus, W3.same p2⟩
  rintro σ H4 ⟨l, us, u0, rfl, eL4, h0, ln, hu, W4⟩
  have hum := List.mem_of_getElem? h0
  have lu0 := hu u0 hum
  obtain ⟨hN, hR⟩ := nf_of G1.ha G1.hb G1.hc
  have nw : ∀ y', HullC x y z us u0 y' → nfw x y z y' = y' ∧ y'.length ≤ 56 := fun y' h => hull_nw G1.ha G1.hb G1.hc ln hu lu0 h
  have l00 : (nfw x y z u0).length ≤ 8 := by have := hN.l u0 (by omega); omega
  refine ⟨fun σ H => ∃ (L : Addr) (ys : List W), σ = [some (.ref a), some (.ref o), some (.ref t), some (V.int m), some (.ref l), some (.ref L), none, none, none, none, none, none, none] ∧ ys.Nodup ∧ ys.Pairwise ole ∧ nfw x y z u0 ∈ ys ∧ ys.length ≤ 700 ∧ (∀ v ∈ ys, HullC x y z us u0 v) ∧ (ys.length ≤ 200 → ∀ v, HullC x y z us u0 v → v ∈ ys) ∧ Bs K cx.Tiles cx.Floor H o t f n d x y z 3000 l L us ys, ?_, ?_⟩
  · simp only [tSeq, tIfS, tOr, tAnd, tB, tTest, tCB, tCons, tVar, tC, tNil, tNot, tNotV, tRet, tRetN, tNext, tBreak, tOrV, tAndV, tOp, tUn, rEq, rNe, tChain, rI0, rI, rU, tAsg, gName, tDrop, tAug, ipI, tIf, tCall, tCallS, tLst, tTup, tBM, tBM0, rAppend, rExtend, rPop, rReverse, tyV, rIxL, rIxT, rIxS, rIsB, rNotB, L2.start, List.map_cons, List.map_nil, List.length_cons, List.length_nil, List.replicate, List.cons_append, List.nil_append, List.append_nil, List.getElem?_cons_zero, List.getElem?_cons_succ, List.set_cons_zero, List.set_cons_succ, Nat.reduceAdd, Nat.reduceSub, Option.some.injEq, exists_eq_left', exists_eq_left, V.int.injEq, V.bl.injEq, V.str.injEq, V.ref.injEq, List.cons.injEq, and_true, true_and, and_assoc, reduceCtorEq, false_and, exists_false, or_false, false_or, exists_and_left, exists_const, scal, Int.reduceLT, Int.reduceLE, Int.reduceSub, Int.reduceAdd, Int.reduceNeg, if_true, if_false]
    exact ⟨t, f, n, o, d, l, x, y, z, 0, us, u0, rfl, W4.sv, eL4, h0, ln, hu, by omega, fun ys L H5 nd pw h0 lm hh hc hL eL S5 b5 => ⟨L, rfl, ys, nd, pw, h0, lm, hh, hc, S5.mono (by omega), W4.sv.lst b5 eL4, eL⟩⟩
  rintro σ H5 ⟨L, ys, rfl, ndy, pwy, h0y, lmy, hhy, hcy, B5⟩
  have K1 : ∀ (k : Nat) (rs : List W), k ≤ 200 → rs.Nodup → (∀ r ∈ rs, HullC x y z us u0 r) → k < rs.length → k < ys.length := fun k rs hk nd hr hl => by
    rcases Nat.lt_or_ge k ys.length with c | c
    · exact c
    · have := sub_lenW nd fun r h => hcy (by omega) r (hr r h)
      omega
  have K2 : ∀ (rs : List W), rs.Nodup → (∀ v, v ∈ rs ↔ HullC x y z us u0 v) → rs.length ≤ 200 → ys.Perm rs := fun rs nd hr hl => by
    have := sub_lenW ndy fun r h => (hr r).mpr (hhy r h)
    exact perm_ext' ndy nd fun v => ⟨fun h => (hr v).mpr (hhy v h), fun h => hcy (by omega) v ((hr v).mp h)⟩
  have fy : FK.Fine (.list ((ys.map wS).map PyData.str)) 50000 1 := (FK.Fine.lst (FK.FineAll.of (b := 60) (k := 0) (ds := (ys.map wS).map PyData.str) fun d hd => by
    obtain ⟨t, ht, rfl⟩ := List.mem_map.mp hd
    obtain ⟨u, hu', rfl⟩ := List.mem_map.mp ht
    exact (fine_w u).mono (by have := (nw u (hhy u hu')).2; omega) (Nat.le_refl _))).mono (by rw [List.length_map, List.length_map]; omega) (Nat.le_refl _)
  refine ⟨fun σ H => σ = [some (.ref a), some (.ref o), some (.ref t), some (V.int m), some (.ref l), some (.ref L), some (V.bl ((decide (200 < ys.length)))), none, none, none, none, none, none] ∧ Bs K cx.Tiles cx.Floor H o t f n d x y z 3000 l L us ys, ?_, ?_⟩
  · simp only [tSeq, tIfS, tOr, tAnd, tB, tTest, tCB, tCons, tVar, tC, tNil, tNot, tNotV, tRet, tRetN, tNext, tBreak, tOrV, tAndV, tOp, tUn, rEq, rNe, tChain, rI0, rI, rU, tAsg, gName, tDrop, tAug, ipI, tIf, tCall, tCallS, tLst, tTup, tBM, tBM0, rAppend, rExtend, rPop, rReverse, tyV, rIxL, rIxT, rIxS, rIsB, rNotB, L2.start, List.map_cons, List.map_nil, List.length_cons, List.length_nil, List.replicate, List.cons_append, List.nil_append, List.append_nil, List.getElem?_cons_zero, List.getElem?_cons_succ, List.set_cons_zero, List.set_cons_succ, Nat.reduceAdd, Nat.reduceSub, Option.some.injEq, exists_eq_left', exists_eq_left, V.int.injEq, V.bl.injEq, V.str.injEq, V.ref.injEq, List.cons.injEq, and_true, true_and, and_assoc, reduceCtorEq, false_and, exists_false, or_false, false_or, exists_and_left, exists_const, scal, Int.reduceLT, Int.reduceLE, Int.reduceSub, Int.reduceAdd, Int.reduceNeg, if_true, if_false]
    refine ⟨_, .inl (SqL.of B5.eL), decide_eq_decide.2 ?_, B5⟩
    rw [List.length_map, List.length_map]
    omega
  rintro σ H6 ⟨rfl, B6⟩
  refine ⟨fun σ H => σ = [some (.ref a), some (.ref o), some (.ref t), some (V.int m), some (.ref l), some (.ref L), some (V.bl ((decide (200 < ys.length)))), none, none, none, none, none, none] ∧ Bs K cx.Tiles cx.Floor H o t f n d x y z 3000 l L us ys, ?_, ?_⟩
  · simp only [tSeq, tIfS, tOr, tAnd, tB, tTest, tCB, tCons, tVar, tC, tNil, tNot, tNotV, tRet, tRetN, tNext, tBreak, tOrV, tAndV, tOp, tUn, rEq, rNe, tChain, rI0, rI, rU, tAsg, gName, tDrop, tAug, ipI, tIf, tCall, tCallS, tLst, tTup, tBM, tBM0, rAppend, rExtend, rPop, rReverse, tyV, rIxL, rIxT, rIxS, rIsB, rNotB, L2.start, List.map_cons, List.map_nil, List.length_cons, List.length_nil, List.replicate, List.cons_append, List.nil_append, List.append_nil, List.getElem?_cons_zero, List.getElem?_cons_succ, List.set_cons_zero, List.set_cons_succ, Nat.reduceAdd, Nat.reduceSub, Option.some.injEq, exists_eq_left', exists_eq_left, V.int.injEq, V.bl.injEq, V.str.injEq, V.ref.injEq, List.cons.injEq, and_true, true_and, and_assoc, reduceCtorEq, false_and, exists_false, or_false, false_or, exists_and_left, exists_const, scal, Int.reduceLT, Int.reduceLE, Int.reduceSub, Int.reduceAdd, Int.reduceNeg, if_true, if_false]
    refine ⟨0, o, l, x, y, z, us, rfl, by decide, B6.sv.g, B6.el, fun u h => by have := hu u h; omega, (fun e => by rw [e] at h0; cases h0), (fun _ h => by omega), fun _ v0 hv0 => ?_⟩
    obtain rfl : u0 = v0 := by rw [h0] at hv0; exact Option.some.inj hv0
    refine ⟨by omega, fun _ => ⟨fun rs nd hr hl H7 s7 => ?_, fun rs L7 H7 nd pw hr hl hn7 e7 s7 => ?_⟩, (fun e => nomatch e), fun e => nomatch e⟩
    · have c := K1 200 rs (Nat.le_refl _) nd hr hl
      exact FK.rd_repr (.str _) fine_large (by decide) (by decide) (iteT' (decide_eq_true c) (FK.rd_repr (.str _) fine_large (by decide) (by decide) ⟨rfl, iteF' (by simp) (B6.same s7)⟩))
    · have pm := K2 rs nd hr hl
      obtain rfl := ole_uniq pm pwy pw
      have B7 := B6.same s7
      exact FK.rd_repr (.lst (SqL.of e7) (FK.dpAll_strs _)) fy (by decide) (by decide) (iteF' (by simp; omega) (FK.rd_repr (.lst (SqL.of B7.eL) (FK.dpAll_strs _)) fy (by decide) (by decide) ⟨rfl, iteF' (by simp) B7⟩))
  rintro σ H7 ⟨rfl, B7⟩
  refine ⟨fun σ H => ∃ D : Addr, σ = [some (.ref a), some (.ref o), some (.ref t), some (V.int m), some (.ref l), some (.ref L), some (V.bl ((decide (200 < ys.length)))), some (.ref D), none, none, none, none, none] ∧ H D = some (.lst []) ∧ l ≠ D ∧ L ≠ D ∧ Bs K cx.Tiles cx.Floor H o t f n d x y z 3000 l L us ys, ?_, ?_⟩
  · simp only [tSeq, tIfS, tOr, tAnd, tB, tTest, tCB, tCons, tVar, tC, tNil, tNot, tNotV, tRet, tRetN, tNext, tBreak, tOrV, tAndV, tOp, tUn, rEq, rNe, tChain, rI0, rI, rU, tAsg, gName, tDrop, tAug, ipI, tIf, tCall, tCallS, tLst, tTup, tBM, tBM0, rAppend, rExtend, rPop, rReverse, tyV, rIxL, rIxT, rIxS, rIsB, rNotB, L2.start, List.map_cons, List.map_nil, List.length_cons, List.length_nil, List.replicate, List.cons_append, List.nil_append, List.append_nil, List.getElem?_cons_zero, List.getElem?_cons_succ, List.set_cons_zero, List.set_cons_succ, Nat.reduceAdd, Nat.reduceSub, Option.some.injEq, exists_eq_left', exists_eq_left, V.int.injEq, V.bl.injEq, V.str.injEq, V.ref.injEq, List.cons.injEq, and_true, true_and, and_assoc, reduceCtorEq, false_and, exists_false, or_false, false_or, exists_and_left, exists_const, scal, Int.reduceLT, Int.reduceLE, Int.reduceSub, Int.reduceAdd, Int.reduceNeg, if_true, if_false]
    exact ⟨Nat.zero_le _, fun q hq => ⟨upd_same, (fun z => by have h := B7.el; rw [z, hq] at h; cases h), (fun z => by have h := B7.eL; rw [z, hq] at h; cases h), B7.same (FK.same_new hq)⟩⟩
  rintro σ H8 ⟨D, rfl, eD8, nlD, nLD, B8⟩
  refine ⟨fun σ H => ∃ (ds : List W) (v8 : Option V), σ = [some (.ref a), some (.ref o), some (.ref t), some (V.int m), some (.ref l), some (.ref L), some (V.bl ((decide (200 < ys.length)))), some (.ref D), v8, none, none, none, none] ∧ ds.Nodup ∧ (∀ v, v ∈ ds ↔ ∃ u ∈ us, nfw x y z u = v) ∧ H D = some (.lst ((ds.map wS).map V.str)) ∧ Bs K cx.Tiles cx.Floor H o t f n d x y z 3010 l L us ys, ?_, ?_⟩
  · simp only [tSeq, tIfS, tOr, tAnd, tB, tTest, tCB, tCons, tVar, tC, tNil, tNot, tNotV, tRet, tRetN, tNext, tBreak, tOrV, tAndV, tOp, tUn, rEq, rNe, tChain, rI0, rI, rU, tAsg, gName, tDrop, tAug, ipI, tIf, tCall, tCallS, tLst, tTup, tBM, tBM0, rAppend, rExtend, rPop, rReverse, tyV, rIxL, rIxT, rIxS, rIsB, rNotB, L2.start, List.map_cons, List.map_nil, List.length_cons, List.length_nil, List.replicate, List.cons_append, List.nil_append, List.append_nil, List.getElem?_cons_zero, List.getElem?_cons_succ, List.set_cons_zero, List.set_cons_succ, Nat.reduceAdd, Nat.reduceSub, Option.some.injEq, exists_eq_left', exists_eq_left, V.int.injEq, V.bl.injEq, V.str.injEq, V.ref.injEq, List.cons.injEq, and_true, true_and, and_assoc, reduceCtorEq, false_and, exists_false, or_false, false_or, exists_and_left, exists_const, scal, Int.reduceLT, Int.reduceLE, Int.reduceSub, Int.reduceAdd, Int.reduceNeg, if_true, if_false]
    refine FK.rd_for (J := Itl K l) (H1 := H8) (fun R r => ⟨_, rfl, l, rfl, ⟨_, SqL.of B8.el⟩, r⟩) (walk_list (xs := (us.map wS).map V.str))
      (fun k σ H => ∃ (ds : List W) (v8 : Option V), σ = [some (.ref a), some (.ref o), some (.ref t), some (V.int m), some (.ref l), some (.ref L), some (V.bl ((decide (200 < ys.length)))), some (.ref D), v8, none, none, none, none] ∧ ds.Nodup ∧ ds.length ≤ k ∧ (∀ v, v ∈ ds ↔ ∃ u ∈ us.take k, nfw x y z u = v) ∧ H D = some (.lst ((ds.map wS).map V.str)) ∧ Bs K cx.Tiles cx.Floor H o t f n d x y z (3000 + 2 * k) l L us ys)
      ⟨[], none, rfl, List.Pairwise.nil, Nat.zero_le _, fun v => by simp, eD8, B8⟩ (fun _ _ _ _ ⟨_, _, _, _, _, _, _, b⟩ => SqL.of b.el) ?_ ?_
    · rintro k x' σ Ha Hb hk ⟨ds, v8, rfl, nd, ld, hm, eD, Ba⟩ ⟨rfl, hx⟩
      rw [List.length_map, List.length_map] at hk
      have huk : us[k]? = some us[k] := List.getElem?_eq_getElem hk
      rw [List.getElem?_map, List.getElem?_map, huk] at hx
      obtain rfl : V.str (wS us[k]) = x' := Option.some.inj hx
      have lu := hu us[k] (List.mem_of_getElem? huk)
      generalize us[k] = u at huk lu
      simp only [tSeq, tIfS, tOr, tAnd, tB, tTest, tCB, tCons, tVar, tC, tNil, tNot, tNotV, tRet, tRetN, tNext, tBreak, tOrV, tAndV, tOp, tUn, rEq, rNe, tChain, rI0, rI, rU, tAsg, gName, tDrop, tAug, ipI, tIf, tCall, tCallS, tLst, tTup, tBM, tBM0, rAppend, rExtend, rPop, rReverse, tyV, rIxL, rIxT, rIxS, rIsB, rNotB, L2.start, List.map_cons, List.map_nil, List.length_cons, List.length_nil, List.replicate, List.cons_append, List.nil_append, List.append_nil, List.getElem?_cons_zero, List.getElem?_cons_succ, List.set_cons_zero, List.set_cons_succ, Nat.reduceAdd, Nat.reduceSub, Option.some.injEq, exists_eq_left', exists_eq_left, V.int.injEq, V.bl.injEq, V.str.injEq, V.ref.injEq, List.cons.injEq, and_true, true_and, and_assoc, reduceCtorEq, false_and, exists_false, or_false, false_or, exists_and_left, exists_const, scal, Int.reduceLT, Int.reduceLE, Int.reduceSub, Int.reduceAdd, Int.reduceNeg, if_true, if_false, tMeth]
      obtain ⟨dx, t1⟩ := Ba.sv.tl.ob
      refine ⟨dx, _, t1, fldsT_no _ _ (by decide +kernel) (by decide +kernel), t, f, n, o, d, x, y, z, _, u, rfl, Ba.sv.tl, by omega, by omega, fun Hc Tl b2 => ?_⟩
      have Bc := Ba.nrm Tl b2
      have eDc := Ba.sv.lst b2 eD
      refine ⟨_, _, rfl, .inl (SqL.of eDc), rfl, flat_words _, _, rfl, ?_⟩
      rw [inV_wS]
      have hadd := mem_take_map (a := x) (b := y) (c := z) huk hm
      by_cases c : nfw x y z u ∈ ds
      · refine iteF' (by simp [c]) ⟨ds, nd, by omega, ?_, eDc, Bc.mono (by omega)⟩
        unfold FK.addS at hadd
        rw [if_pos c] at hadd
        exact hadd
      · unfold FK.addS at hadd
        rw [if_neg c] at hadd
        obtain ⟨dx2, t2⟩ := Bc.sv.tl.ob
        refine iteT' (by simp [c]) ⟨.inl ⟨_, SqL.of eDc⟩, dx2, _, t2, fldsT_no _ _ (by decide +kernel) (by decide +kernel), t, f, n, o, d, x, y, z, _, u, rfl, Bc.sv.tl, by omega, by omega, fun Hd Tl3 b3 => ?_⟩
        have Bd := Bc.nrm Tl3 b3
        have eDd := Bc.sv.lst b3 eDc
        refine ⟨_, eDd, ?_, ds ++ [nfw x y z u], ?_, ?_, hadd, ?_, (Bd.updL eDd nlD nLD).mono (by omega)⟩
        · rw [List.length_map, List.length_map]
          exact Nat.lt_of_le_of_lt (show ds.length ≤ 1000 by omega) (by decide)
        · refine List.nodup_append.mpr ⟨nd, List.pairwise_singleton _ _, fun p hp q hq e => c ?_⟩
          exact (e.trans (List.mem_singleton.mp hq)) ▸ hp
        · rw [List.length_append, List.length_singleton]
          omega
        · rw [upd_same, List.map_append, List.map_append]
          rfl
    · rintro σ Ha ⟨ds, v8, rfl, nd, ld, hm, eD, Ba⟩
      rw [List.length_map, List.length_map] at ld Ba hm
      rw [List.take_length] at hm
      exact ⟨ds, v8, rfl, nd, hm, eD, Ba.mono (by omega)⟩
  rintro σ H9 ⟨ds, v8, rfl, ndd, hmd, eD9, B9⟩
  refine ⟨fun σ H => ∃ v : V, (v = .str "large" ∧ 200 < ys.length ∨ ys.length ≤ 200 ∧ v = .bl (decide (ds.length = ys.length))) ∧ σ = [some (.ref a), some (.ref o), some (.ref t), some (V.int m), some (.ref l), some (.ref L), some (V.bl ((decide (200 < ys.length)))), some (.ref D), v8, some v, none, none, none] ∧ H D = some (.lst ((ds.map wS).map V.str)) ∧ Bs K cx.Tiles cx.Floor H o t f n d x y z 3010 l L us ys, ?_, ?_⟩
  · simp only [tSeq, tIfS, tOr, tAnd, tB, tTest, tCB, tCons, tVar, tC, tNil, tNot, tNotV, tRet, tRetN, tNext, tBreak, tOrV, tAndV, tOp, tUn, rEq, rNe, tChain, rI0, rI, rU, tAsg, gName, tDrop, tAug, ipI, tIf, tCall, tCallS, tLst, tTup, tBM, tBM0, rAppend, rExtend, rPop, rReverse, tyV, rIxL, rIxT, rIxS, rIsB, rNotB, L2.start, List.map_cons, List.map_nil, List.length_cons, List.length_nil, List.replicate, List.cons_append, List.nil_append, List.append_nil, List.getElem?_cons_zero, List.getElem?_cons_succ, List.set_cons_zero, List.set_cons_succ, Nat.reduceAdd, Nat.reduceSub, Option.some.injEq, exists_eq_left', exists_eq_left, V.int.injEq, V.bl.injEq, V.str.injEq, V.ref.injEq, List.cons.injEq, and_true, true_and, and_assoc, reduceCtorEq, false_and, exists_false, or_false, false_or, exists_and_left, exists_const, scal, Int.reduceLT, Int.reduceLE, Int.reduceSub, Int.reduceAdd, Int.reduceNeg, if_true, if_false]
    refine ⟨1, o, l, x, y, z, us, rfl, by decide, B9.sv.g, B9.el, fun u h => by have := hu u h; omega, (fun e => by rw [e] at h0; cases h0), (fun _ h => by omega), fun _ v0 hv0 => ?_⟩
    obtain rfl : u0 = v0 := by rw [h0] at hv0; exact Option.some.inj hv0
    refine ⟨by omega, (fun e => nomatch e), fun _ => ⟨fun rs nd hr hl Ha sa => ?_, fun rs ds2 Ha nd hr hl nd2 hm2 sa => ?_⟩, fun e => nomatch e⟩
    · have c := K1 200 rs (Nat.le_refl _) nd hr hl
      exact ⟨_, .inl ⟨rfl, c⟩, rfl, sa _ _ eD9, B9.same sa⟩
    · have pm := (K2 rs nd hr hl).length_eq
      have pd := (perm_ext' nd2 ndd fun v => by rw [hm2 v, hmd v]).length_eq
      exact ⟨_, .inr ⟨by omega, by rw [pm, pd]⟩, rfl, sa _ _ eD9, B9.same sa⟩
  rintro σ H10 ⟨v, hv, rfl, eD10, B10⟩
  refine ⟨fun σ H => σ = [some (.ref a), some (.ref o), some (.ref t), some (V.int m), some (.ref l), some (.ref L), some (V.bl ((decide (200 < ys.length)))), some (.ref D), v8, some v, none, none, none] ∧ Bs K cx.Tiles cx.Floor H o t f n d x y z 3010 l L us ys, ?_, ?_⟩
  · simp only [tSeq, tIfS, tOr, tAnd, tB, tTest, tCB, tCons, tVar, tC, tNil, tNot, tNotV, tRet, tRetN, tNext, tBreak, tOrV, tAndV, tOp, tUn, rEq, rNe, tChain, rI0, rI, rU, tAsg, gName, tDrop, tAug, ipI, tIf, tCall, tCallS, tLst, tTup, tBM, tBM0, rAppend, rExtend, rPop, rReverse, tyV, rIxL, rIxT, rIxS, rIsB, rNotB, L2.start, List.map_cons, List.map_nil, List.length_cons, List.length_nil, List.replicate, List.cons_append, List.nil_append, List.append_nil, List.getElem?_cons_zero, List.getElem?_cons_succ, List.set_cons_zero, List.set_cons_succ, Nat.reduceAdd, Nat.reduceSub, Option.some.injEq, exists_eq_left', exists_eq_left, V.int.injEq, V.bl.injEq, V.str.injEq, V.ref.injEq, List.cons.injEq, and_true, true_and, and_assoc, reduceCtorEq, false_and, exists_false, or_false, false_or, exists_and_left, exists_const, scal, Int.reduceLT, Int.reduceLE, Int.reduceSub, Int.reduceAdd, Int.reduceNeg, if_true, if_false]
    rcases hv with ⟨rfl, c⟩ | ⟨c, rfl⟩
    · exact FK.rd_repr (.str _) fine_large (by decide) (by decide) (iteT' (decide_eq_true c) (FK.rd_repr (.str _) fine_large (by decide) (by decide) ⟨rfl, iteF' (by simp) B10⟩))
    · refine FK.rd_repr (.bl _) (FK.Fine.bl _) (by decide) (by decide) (iteF' (by simp; omega) ?_)
      refine ⟨_, .inl (SqL.of eD10), _, .inl (SqL.of B10.eL), FK.rd_repr (.bl _) (FK.Fine.bl _) (by decide) (by decide) ⟨rfl, iteF' ?_ B10⟩⟩
      rw [show decide ((((ds.map wS).map V.str).length : Int) = (((ys.map wS).map V.str).length : Int)) = decide (ds.length = ys.length) from decide_eq_decide.2 (by simp only [List.length_map]; omega)]
      simp
  rintro σ H11 ⟨rfl, B11⟩
  -- the tiles of the hull are their own hull
  obtain ⟨d0, hd0⟩ : ∃ d0, ys[0]? = some d0 := by
    cases ys with
    | nil => cases h0y
    | cons u us => exact ⟨u, rfl⟩
  have hd0m := List.mem_of_getElem? hd0
  obtain ⟨nd0, ld0⟩ := nw d0 (hhy d0 hd0m)
  have ld8 : d0.length ≤ 8 := by
    have hp : ys = d0 :: ys.tail := by
      cases ys with
      | nil => cases h0y
      | cons u us => cases hd0; rfl
    rw [hp] at h0y pwy
    rcases List.mem_cons.mp h0y with e | e
    · rw [← e]; exact l00
    · rcases (List.pairwise_cons.mp pwy).1 _ e with h | ⟨h, _⟩ <;> omega
  have K3 : ys.length ≤ 60 → ∀ v, HullC x y z ys d0 v ↔ HullC x y z us u0 v := fun hl v => by
    obtain ⟨ws, hw, lw⟩ := hull_bnd G1.ha G1.hb G1.hc ln hu lu0
    unfold HullC
    rw [nd0]
    refine Wk.again hN hR hw (by omega) (t0 := nfw x y z u0) (by omega) (hN.c _ _ (by omega) (by omega) (hN.e u0 (by omega)).symm) (hhy d0 hd0m) (fun y' => ?_) v
    constructor
    · rintro ⟨t', h1, h2⟩
      refine ⟨t', hhy t' h1, ?_⟩
      unfold pwl at h2
      rw [nd0] at h2
      exact h2
    · rintro ⟨t', h1, h2⟩
      refine ⟨t', hcy (by omega) t' h1, ?_⟩
      unfold pwl
      rw [nd0]
      exact h2
  have K4 : ∀ v, HullC x y z (ys.take 60) d0 v → HullC x y z us u0 v := fun v hv => by
    obtain ⟨ws, hw, lw⟩ := hull_bnd G1.ha G1.hb G1.hc ln hu lu0
    unfold HullC at hv
    rw [nd0] at hv
    refine Wk.inside hN hR hw (by omega) (t0 := nfw x y z u0) (by omega) (hN.c _ _ (by omega) (by omega) (hN.e u0 (by omega)).symm) (hhy d0 hd0m) (fun y' => ?_) hv
    rintro ⟨t', h1, h2⟩
    refine ⟨t', hhy t' (List.mem_of_mem_take h1), ?_⟩
    unfold pwl at h2
    rw [nd0] at h2
    exact h2
  refine ⟨fun σ H => σ = [some (.ref a), some (.ref o), some (.ref t), some (V.int m), some (.ref l), some (.ref L), some (V.bl ((decide (200 < ys.length)))), some (.ref D), v8, some v, none, none, none] ∧ Bs K cx.Tiles cx.Floor H o t f n d x y z 3010 l L us ys, ?_, ?_⟩
  · simp only [tSeq, tIfS, tOr, tAnd, tB, tTest, tCB, tCons, tVar, tC, tNil, tNot, tNotV, tRet, tRetN, tNext, tBreak, tOrV, tAndV, tOp, tUn, rEq, rNe, tChain, rI0, rI, rU, tAsg, gName, tDrop, tAug, ipI, tIf, tCall, tCallS, tLst, tTup, tBM, tBM0, rAppend, rExtend, rPop, rReverse, tyV, rIxL, rIxT, rIxS, rIsB, rNotB, L2.start, List.map_cons, List.map_nil, List.length_cons, List.length_nil, List.replicate, List.cons_append, List.nil_append, List.append_nil, List.getElem?_cons_zero, List.getElem?_cons_succ, List.set_cons_zero, List.set_cons_succ, Nat.reduceAdd, Nat.reduceSub, Option.some.injEq, exists_eq_left', exists_eq_left, V.int.injEq, V.bl.injEq, V.str.injEq, V.ref.injEq, List.cons.injEq, and_true, true_and, and_assoc, reduceCtorEq, false_and, exists_false, or_false, false_or, exists_and_left, exists_const, scal, Int.reduceLT, Int.reduceLE, Int.reduceSub, Int.reduceAdd, Int.reduceNeg, if_true, if_false]
    refine ite2 (fun c => ?_) (fun c => B11)
    have c : ys.length ≤ 200 := by simp at c; omega
    simp only [tSeq, tIfS, tOr, tAnd, tB, tTest, tCB, tCons, tVar, tC, tNil, tNot, tNotV, tRet, tRetN, tNext, tBreak, tOrV, tAndV, tOp, tUn, rEq, rNe, tChain, rI0, rI, rU, tAsg, gName, tDrop, tAug, ipI, tIf, tCall, tCallS, tLst, tTup, tBM, tBM0, rAppend, rExtend, rPop, rReverse, tyV, rIxL, rIxT, rIxS, rIsB, rNotB, L2.start, List.map_cons, List.map_nil, List.length_cons, List.length_nil, List.replicate, List.cons_append, List.nil_append, List.append_nil, List.getElem?_cons_zero, List.getElem?_cons_succ, List.set_cons_zero, List.set_cons_succ, Nat.reduceAdd, Nat.reduceSub, Option.some.injEq, exists_eq_left', exists_eq_left, V.int.injEq, V.bl.injEq, V.str.injEq, V.ref.injEq, List.cons.injEq, and_true, true_and, and_assoc, reduceCtorEq, false_and, exists_false, or_false, false_or, exists_and_left, exists_const, scal, Int.reduceLT, Int.reduceLE, Int.reduceSub, Int.reduceAdd, Int.reduceNeg, if_true, if_false, tSl, tPart, tNoPart, rSlL]
    refine ⟨_, SqL.of B11.eL, fun p hp => ?_⟩
    rw [cut_60]
    have s1 := FK.same_new (o := .lst (((ys.map wS).map V.str).take 60)) hp
    have Bp := B11.same s1
    have e60 : ((ys.map wS).map V.str).take 60 = (((ys.take 60).map wS).map V.str) := by rw [List.map_take, List.map_take]
    have ht0 : (ys.take 60)[0]? = some d0 := by rw [List.getElem?_take, if_pos (by decide), hd0]
    refine ⟨1, o, p, x, y, z, ys.take 60, rfl, by decide, Bp.sv.g, by rw [upd_same, e60], fun u h => by have := (nw u (hhy u (List.mem_of_mem_take h))).2; omega, (fun e => by rw [e] at ht0; cases ht0), (fun _ h => by rw [List.length_take] at h; omega), fun _ v0 hv0 => ?_⟩
    obtain rfl : d0 = v0 := by rw [ht0] at hv0; exact Option.some.inj hv0
    refine ⟨by rw [nd0]; omega, (fun e => nomatch e), fun _ => ⟨fun rs nd hr hl Ha sa => ?_, fun rs ds2 Ha nd hr hl nd2 hm2 sa => ?_⟩, fun e => nomatch e⟩
    · have := K1 200 rs (Nat.le_refl _) nd (fun r h => K4 r (hr r h)) hl
      omega
    · have Ba := Bp.same sa
      refine ⟨_, rfl, ite2 (fun c2 => ?_) (fun c2 => Ba)⟩
      refine ⟨_, .inl (SqL.of Ba.eL), ite2 (fun c3 => ?_) (fun c3 => Ba)⟩
      have c3 : ys.length ≤ 60 := by
        have := of_decide_eq_true c3
        rw [List.length_map, List.length_map] at this
        omega
      rw [List.take_of_length_le c3] at hr hm2
      have p1 := (K2 rs nd (fun v => by rw [hr v]; exact K3 c3 v) hl).length_eq
      have p2 := (perm_ext' nd2 ndy fun v => ?_).length_eq
      · simp [← p1, p2] at c2
      · rw [hm2 v]
        constructor
        · rintro ⟨u', h1, rfl⟩
          rw [(nw u' (hhy u' h1)).1]
          exact h1
        · intro h1
          exact ⟨v, h1, (nw v (hhy v h1)).1⟩
  rintro σ H12 ⟨rfl, B12⟩
  refine ⟨fun σ H => ∃ p : V, ((60 < ys.length ∧ p = .str "large") ∨ (ys.length ≤ 60 ∧ ∃ q Lt, p = .ref q ∧ H q = some (.tup [.ref o, .ref Lt]) ∧ H Lt = some (.tup ((ys.map wS).map V.str)))) ∧ σ = [some (.ref a), some (.ref o), some (.ref t), some (V.int m), some (.ref l), some (.ref L), some (V.bl ((decide (200 < ys.length)))), some (.ref D), v8, some v, some p, none, none] ∧ Bs K cx.Tiles cx.Floor H o t f n d x y z 3010 l L us ys, ?_, ?_⟩
  · simp only [tSeq, tIfS, tOr, tAnd, tB, tTest, tCB, tCons, tVar, tC, tNil, tNot, tNotV, tRet, tRetN, tNext, tBreak, tOrV, tAndV, tOp, tUn, rEq, rNe, tChain, rI0, rI, rU, tAsg, gName, tDrop, tAug, ipI, tIf, tCall, tCallS, tLst, tTup, tBM, tBM0, rAppend, rExtend, rPop, rReverse, tyV, rIxL, rIxT, rIxS, rIsB, rNotB, L2.start, List.map_cons, List.map_nil, List.length_cons, List.length_nil, List.replicate, List.cons_append, List.nil_append, List.append_nil, List.getElem?_cons_zero, List.getElem?_cons_succ, List.set_cons_zero, List.set_cons_succ, Nat.reduceAdd, Nat.reduceSub, Option.some.injEq, exists_eq_left', exists_eq_left, V.int.injEq, V.bl.injEq, V.str.injEq, V.ref.injEq, List.cons.injEq, and_true, true_and, and_assoc, reduceCtorEq, false_and, exists_false, or_false, false_or, exists_and_left, exists_const, scal, Int.reduceLT, Int.reduceLE, Int.reduceSub, Int.reduceAdd, Int.reduceNeg, if_true, if_false]
    refine ⟨_, .inl (SqL.of B12.eL), ?_⟩
    rw [List.length_map, List.length_map]
    refine ite2 (fun c => ?_) (fun c => ?_)
    · have c : (60 : Int) < ys.length := of_decide_eq_true c
      exact ⟨_, .inl ⟨by omega, rfl⟩, rfl, B12⟩
    · have c : ¬ (60 : Int) < ys.length := fun z => c (decide_eq_true z)
      refine ⟨_, .inl ⟨SqL.of B12.eL, fun l1 hl1 => ⟨by decide, fun p hp => ⟨_, .inr ⟨by omega, p, rfl, l1, upd_same, FK.same_new hp _ _ upd_same⟩, rfl, ?_⟩⟩⟩⟩
      exact B12.same ((FK.same_new hl1).trans (FK.same_new hp))
  rintro σ H13 ⟨p, hp, rfl, B13⟩
  refine ⟨fun σ H => σ = [some (.ref a), some (.ref o), some (.ref t), some (V.int m), some (.ref l), some (.ref L), some (V.bl ((decide (200 < ys.length)))), some (.ref D), v8, some v, some p, none, none] ∧ Bs K cx.Tiles cx.Floor H o t f n d x y z 3010 l L us ys, ?_, ?_⟩
  · simp only [tSeq, tIfS, tOr, tAnd, tB, tTest, tCB, tCons, tVar, tC, tNil, tNot, tNotV, tRet, tRetN, tNext, tBreak, tOrV, tAndV, tOp, tUn, rEq, rNe, tChain, rI0, rI, rU, tAsg, gName, tDrop, tAug, ipI, tIf, tCall, tCallS, tLst, tTup, tBM, tBM0, rAppend, rExtend, rPop, rReverse, tyV, rIxL, rIxT, rIxS, rIsB, rNotB, L2.start, List.map_cons, List.map_nil, List.length_cons, List.length_nil, List.replicate, List.cons_append, List.nil_append, List.append_nil, List.getElem?_cons_zero, List.getElem?_cons_succ, List.set_cons_zero, List.set_cons_succ, Nat.reduceAdd, Nat.reduceSub, Option.some.injEq, exists_eq_left', exists_eq_left, V.int.injEq, V.bl.injEq, V.str.injEq, V.ref.injEq, List.cons.injEq, and_true, true_and, and_assoc, reduceCtorEq, false_and, exists_false, or_false, false_or, exists_and_left, exists_const, scal, Int.reduceLT, Int.reduceLE, Int.reduceSub, Int.reduceAdd, Int.reduceNeg, if_true, if_false]
    refine ⟨2, o, l, x, y, z, us, rfl, by decide, B13.sv.g, B13.el, fun u h => by have := hu u h; omega, (fun e => by rw [e] at h0; cases h0), (fun _ h => by omega), fun _ v0 hv0 => ?_⟩
    obtain rfl : u0 = v0 := by rw [h0] at hv0; exact Option.some.inj hv0
    refine ⟨by omega, (fun e => nomatch e), (fun e => nomatch e), fun _ => ⟨fun rs nd hr hl Ha sa => ?_, fun rs nd hr hl => ⟨fun r h => by have := (nw r ((hr r).mp h)).2; omega, fun ts pm pw q Lt Ha sa e1 e2 => ?_⟩⟩⟩
    · have c := K1 60 rs (by omega) nd hr hl
      rcases hp with ⟨_, rfl⟩ | ⟨c2, _⟩
      · exact FK.rd_repr (.str _) fine_large (by decide) (by decide) (FK.rd_repr (.str _) fine_large (by decide) (by decide) ⟨rfl, iteF' (by simp) (B13.same sa)⟩)
      · omega
    · have pm2 := (K2 rs nd hr (by omega)).trans pm.symm
      obtain rfl := ole_uniq pm2 pwy pw
      have ly : ys.length ≤ 60 := by rw [pm.length_eq]; exact hl
      have fp := fine_poly G1.ha G1.hb G1.hc ly (fun u h => by have := (nw u (hhy u h)).2; omega)
      rcases hp with ⟨c2, _⟩ | ⟨_, q2, Lt2, rfl, e3, e4⟩
      · omega
      · have Ba := B13.same sa
        exact FK.rd_repr (dp_poly e1 (SqT.of Ba.sv.g.ob) e2) fp (by decide) (by decide) (FK.rd_repr (dp_poly (sa _ _ e3) (SqT.of Ba.sv.g.ob) (sa _ _ e4)) fp (by decide) (by decide) ⟨rfl, iteF' (by simp) Ba⟩)
  rintro σ H14 ⟨rfl, B14⟩
  refine ⟨fun σ H => True, ?_, fun σ H' _ => by simp only [tSeq, tIfS, tOr, tAnd, tB, tTest, tCB, tCons, tVar, tC, tNil, tNot, tNotV, tRet, tRetN, tNext, tBreak, tOrV, tAndV, tOp, tUn, rEq, rNe, tChain, rI0, rI, rU, tAsg, gName, tDrop, tAug, ipI, tIf, tCall, tCallS, tLst, tTup, tBM, tBM0, rAppend, rExtend, rPop, rReverse, tyV, rIxL, rIxT, rIxS, rIsB, rNotB, L2.start, List.map_cons, List.map_nil, List.length_cons, List.length_nil, List.replicate, List.cons_append, List.nil_append, List.append_nil, List.getElem?_cons_zero, List.getElem?_cons_succ, List.set_cons_zero, List.set_cons_succ, Nat.reduceAdd, Nat.reduceSub, Option.some.injEq, exists_eq_left', exists_eq_left, V.int.injEq, V.bl.injEq, V.str.injEq, V.ref.injEq, List.cons.injEq, and_true, true_and, and_assoc, reduceCtorEq, false_and, exists_false, or_false, false_or, exists_and_left, exists_const, scal, Int.reduceLT, Int.reduceLE, Int.reduceSub, Int.reduceAdd, Int.reduceNeg, if_true, if_false]⟩
  simp only [tSeq, tIfS, tOr, tAnd, tB, tTest, tCB, tCons, tVar, tC, tNil, tNot, tNotV, tRet, tRetN, tNext, tBreak, tOrV, tAndV, tOp, tUn, rEq, rNe, tChain, rI0, rI, rU, tAsg, gName, tDrop, tAug, ipI, tIf, tCall, tCallS, tLst, tTup, tBM, tBM0, rAppend, rExtend, rPop, rReverse, tyV, rIxL, rIxT, rIxS, rIsB, rNotB, L2.start, List.map_cons, List.map_nil, List.length_cons, List.length_nil, List.replicate, List.cons_append, List.nil_append, List.append_nil, List.getElem?_cons_zero, List.getElem?_cons_succ, List.set_cons_zero, List.set_cons_succ, Nat.reduceAdd, Nat.reduceSub, Option.some.injEq, exists_eq_left', exists_eq_left, V.int.injEq, V.bl.injEq, V.str.injEq, V.ref.injEq, List.cons.injEq, and_true, true_and, and_assoc, reduceCtorEq, false_and, exists_false, or_false, false_or, exists_and_left, exists_const, scal, Int.reduceLT, Int.reduceLE, Int.reduceSub, Int.reduceAdd, Int.reduceNeg, if_true, if_false]
  refine FK.rd_for (J := Itr 0 3) (fun R r => by first | exact r | exact ⟨by decide, by decide, r⟩ | exact ⟨_, rfl, by decide, by decide, r⟩) (walk_nat (n := 3))
    (fun i σ H => ∃ v11 : Option V, σ = [some (.ref a), some (.ref o), some (.ref t), some (V.int m), some (.ref l), some (.ref L), some (V.bl ((decide (200 < ys.length)))), some (.ref D), v8, some v, some p, v11, none] ∧ Bs K cx.Tiles cx.Floor H o t f n d x y z 3010 l L us ys) ⟨none, rfl, B14⟩ (fun _ _ _ _ _ => trivial) ?_ (fun _ _ _ => trivial)
  rintro i x' σ Ha Hb hi ⟨v11, rfl, Ba⟩ ⟨rfl, hx⟩
  obtain rfl : x' = .int (i : Nat) := hx
  simp only [tSeq, tIfS, tOr, tAnd, tB, tTest, tCB, tCons, tVar, tC, tNil, tNot, tNotV, tRet, tRetN, tNext, tBreak, tOrV, tAndV, tOp, tUn, rEq, rNe, tChain, rI0, rI, rU, tAsg, gName, tDrop, tAug, ipI, tIf, tCall, tCallS, tLst, tTup, tBM, tBM0, rAppend, rExtend, rPop, rReverse, tyV, rIxL, rIxT, rIxS, rIsB, rNotB, L2.start, List.map_cons, List.map_nil, List.length_cons, List.length_nil, List.replicate, List.cons_append, List.nil_append, List.append_nil, List.getElem?_cons_zero, List.getElem?_cons_succ, List.set_cons_zero, List.set_cons_succ, Nat.reduceAdd, Nat.reduceSub, Option.some.injEq, exists_eq_left', exists_eq_left, V.int.injEq, V.bl.injEq, V.str.injEq, V.ref.injEq, List.cons.injEq, and_true, true_and, and_assoc, reduceCtorEq, false_and, exists_false, or_false, false_or, exists_and_left, exists_const, scal, Int.reduceLT, Int.reduceLE, Int.reduceSub, Int.reduceAdd, Int.reduceNeg, if_true, if_false]
  refine ⟨by decide, fun p1 hp1 => told_n hi (Ba.same (FK.same_new hp1)).sv.g upd_same fun Hc sc => ⟨rfl, ?_⟩⟩
  have Bc := (Ba.same (FK.same_new (o := HO.lst []) hp1)).same sc
  refine iteF' (by simp) ⟨by decide, fun p2 hp2 => ?_⟩
  refine ⟨p2, 61, _, rfl, rfl, upd_same, by decide, by decide, by decide, fun p3 hp3 => ?_⟩
  have sR := (FK.same_new (o := HO.lst [.str "0"]) hp2).trans (FK.same_new (o := HO.lst (List.replicate (61 : Int).toNat [V.str "0"]).flatten) hp3)
  have Bd := Bc.same sR
  exact told_l hi (us := List.replicate 61 [0]) Bd.sv.g (by rw [upd_same]; rfl) (fun u h => by rw [List.eq_of_mem_replicate h]; decide) (by rw [List.length_replicate]; decide) fun H2 s2 => ⟨rfl, iteF' (by simp) (Bd.same s2)⟩

end
end K32

namespace K32
open PySem PySem.Spec PyProof.Rows L2
theorem law_holds {P : Program} {w : World} {K : PySem.W.Frag} {mg : Str → Option Value} {h : Heap} {fa : Addr} (inK : K.In h) (T : ∃ cx : Xs, Txt K mg cx) (g : mg "law" = some (.ref fa)) (base : Heap) (s : Shared) (H : Hp) (a : Addr) (ns : List Int) (hl : ns.length ≤ 63) (hb : ∀ z ∈ ns, Builtin.Int.intBits z ≤ 1048576)
    (e0 : Env0 P w K mg base callerA [] s H) (sq : SqL K H a (ns.map V.int)) : codeAny (model P w) callerA (.call (.ref fa) ⟨[.ref a], []⟩) (CR CX0 [] P w H s (fun v _ => v = .bl true) E0) s := by
  obtain ⟨cx, T⟩ := T
  exact ok_law T g ⟨rfl, by decide, by decide⟩ e0 sq hl
end K32
open PySem PySem.W PyProof.Rows
set_option maxHeartbeats 0 in
theorem PySem.Challenge.cw_foldfloor_k32_hulls_holds : PySem.Challenge.rw_foldfloor_k32_hulls.Holds := by
  w_on; o_law; k_head; (case hw => w_witness2)
  k_fill
  refine FK.walk_law (l := PySem.Challenge.rw_foldfloor_k32_hulls) (n := 63) rfl (by decide) rfl (fun w h Y => PySem.W.kIn_of Y) ?F
  intro w mg fa h KX G hmg
  refine K32.law_holds KX ?T hmg
  case T =>
    refine' K32.mk_txt {
      d_is_order := FK.at_mk KX G ?q1_a ?q1_l ?q1_c ?q1_k (fun _ _ _ _ _ _ us hl => match us, hl with | [_], _ => rfl),
      d_is_orders := FK.at_mk KX G ?q2_a ?q2_l ?q2_c ?q2_k (fun _ _ _ _ _ _ us hl => match us, hl with | [_], _ => rfl),
      d_check_orders := FK.at_mk KX G ?q3_a ?q3_l ?q3_c ?q3_k (fun _ _ _ _ _ _ us hl => match us, hl with | [_], _ => rfl),
      d_is_letter := FK.at_mk KX G ?q4_a ?q4_l ?q4_c ?q4_k (fun _ _ _ _ _ _ us hl => match us, hl with | [_], _ => rfl),
      d_is_word := FK.at_mk KX G ?q5_a ?q5_l ?q5_c ?q5_k (fun _ _ _ _ _ _ us hl => match us, hl with | [_, _], _ => rfl),
      d_check_long_word := FK.at_mk KX G ?q6_a ?q6_l ?q6_c ?q6_k (fun _ _ _ _ _ _ us hl => match us, hl with | [_, _], _ => rfl),
      d_check_word := FK.at_mk KX G ?q7_a ?q7_l ?q7_c ?q7_k (fun _ _ _ _ _ _ us hl => match us, hl with | [_], _ => rfl),
      d_check_words := FK.at_mk KX G ?q8_a ?q8_l ?q8_c ?q8_k (fun _ _ _ _ _ _ us hl => match us, hl with | [_], _ => rfl),
      d_check_letter := FK.at_mk KX G ?q9_a ?q9_l ?q9_c ?q9_k (fun _ _ _ _ _ _ us hl => match us, hl with | [_], _ => rfl),
      d_in_order := FK.at_mk KX G ?q10_a ?q10_l ?q10_c ?q10_k (fun _ _ _ _ _ _ us hl => match us, hl with | [_], _ => rfl),
      d_sine_ratio := FK.at_mk KX G ?q11_a ?q11_l ?q11_c ?q11_k (fun _ _ _ _ _ _ us hl => match us, hl with | [_, _, _], _ => rfl),
      d_bend_of := FK.at_mk KX G ?q12_a ?q12_l ?q12_c ?q12_k (fun _ _ _ _ _ _ us hl => match us, hl with | [_, _], _ => rfl),
      d_scale_for := FK.at_mk KX G ?q13_a ?q13_l ?q13_c ?q13_k (fun _ _ _ _ _ _ us hl => match us, hl with | [_, _], _ => rfl),
      d_first_depths := FK.at_mk KX G ?q14_a ?q14_l ?q14_c ?q14_k (fun _ _ _ _ _ _ us hl => match us, hl with | [_], _ => rfl),
      d_depths_behind := FK.at_mk KX G ?q15_a ?q15_l ?q15_c ?q15_k (fun _ _ _ _ _ _ us hl => match us, hl with | [_, _, _], _ => rfl),
      d_depths_of := FK.at_mk KX G ?q16_a ?q16_l ?q16_c ?q16_k (fun _ _ _ _ _ _ us hl => match us, hl with | [_, _], _ => rfl),
      d_first_far := FK.at_mk KX G ?q17_a ?q17_l ?q17_c ?q17_k (fun _ _ _ _ _ _ us hl => match us, hl with | [_], _ => rfl),
      d_Floor_init := FK.iat_mk ?q18_mk ?q18_a ?q18_i ?q18_kc ?q18_l ?q18_c ?q18_k (fun _ _ _ _ _ _ us hl => match us, hl with | [_, _], _ => rfl),
      d_Floor_scale := FK.mat_mk ?q19_a ?q19_i ?q19_l ?q19_c ?q19_k (fun _ _ _ _ _ _ us hl => match us, hl with | [_, _], _ => rfl),
      d_Floor_normal := FK.mat_mk ?q20_a ?q20_i ?q20_l ?q20_c ?q20_k (fun _ _ _ _ _ _ us hl => match us, hl with | [_, _], _ => rfl),
      d_polygon_within_limits := FK.at_mk KX G ?q21_a ?q21_l ?q21_c ?q21_k (fun _ _ _ _ _ _ us hl => match us, hl with | [_, _], _ => rfl),
      d_wall_at := FK.at_mk KX G ?q22_a ?q22_l ?q22_c ?q22_k (fun _ _ _ _ _ _ us hl => match us, hl with | [_, _, _], _ => rfl),
      d_way_between := FK.at_mk KX G ?q23_a ?q23_l ?q23_c ?q23_k (fun _ _ _ _ _ _ us hl => match us, hl with | [_, _, _], _ => rfl),
      d_check_given := FK.at_mk KX G ?q24_a ?q24_l ?q24_c ?q24_k (fun _ _ _ _ _ _ us hl => match us, hl with | [_, _], _ => rfl),
      d_walls_parting := FK.at_mk KX G ?q25_a ?q25_l ?q25_c ?q25_k (fun _ _ _ _ _ _ us hl => match us, hl with | [_, _], _ => rfl),
      d_tiles_within := FK.at_mk KX G ?q26_a ?q26_l ?q26_c ?q26_k (fun _ _ _ _ _ _ us hl => match us, hl with | [_, _, _, _], _ => rfl),
      d_hull_within := FK.at_mk KX G ?q27_a ?q27_l ?q27_c ?q27_k (fun _ _ _ _ _ _ us hl => match us, hl with | [_, _, _], _ => rfl),
      d_hull := FK.at_mk KX G ?q28_a ?q28_l ?q28_c ?q28_k (fun _ _ _ _ _ _ us hl => match us, hl with | [_, _], _ => rfl),
      d_is_convex := FK.at_mk KX G ?q29_a ?q29_l ?q29_c ?q29_k (fun _ _ _ _ _ _ us hl => match us, hl with | [_, _], _ => rfl),
      d_hull_polygon := FK.at_mk KX G ?q30_a ?q30_l ?q30_c ?q30_k (fun _ _ _ _ _ _ us hl => match us, hl with | [_, _], _ => rfl),
      d_Tiles_init := FK.iat_mk ?q31_mk ?q31_a ?q31_i ?q31_kc ?q31_l ?q31_c ?q31_k (fun _ _ _ _ _ _ us hl => match us, hl with | [_, _], _ => rfl),
      d_Tiles_normal := FK.mat_mk ?q32_a ?q32_i ?q32_l ?q32_c ?q32_k (fun _ _ _ _ _ _ us hl => match us, hl with | [_, _], _ => rfl),
      d_Tiles_beyond := FK.mat_mk ?q33_a ?q33_i ?q33_l ?q33_c ?q33_k (fun _ _ _ _ _ _ us hl => match us, hl with | [_, _, _], _ => rfl),
      d_Tiles_remembered := FK.mat_mk ?q34_a ?q34_i ?q34_l ?q34_c ?q34_k (fun _ _ _ _ _ _ us hl => match us, hl with | [_, _], _ => rfl),
      d_law_cell := FK.at_mk KX G ?q35_a ?q35_l ?q35_c ?q35_k (fun _ _ _ _ _ _ us hl => match us, hl with | [_, _], _ => rfl),
      d_law_values := FK.at_mk KX G ?q36_a ?q36_l ?q36_c ?q36_k (fun _ _ _ _ _ _ us hl => match us, hl with | [_, _, _], _ => rfl),
      d_law_orders := FK.at_mk KX G ?q37_a ?q37_l ?q37_c ?q37_k (fun _ _ _ _ _ _ us hl => match us, hl with | [_], _ => rfl),
      d_law_word := FK.at_mk KX G ?q38_a ?q38_l ?q38_c ?q38_k (fun _ _ _ _ _ _ us hl => match us, hl with | [_, _], _ => rfl),
      d_law_key := FK.at_mk KX G ?q39_a ?q39_l ?q39_c ?q39_k (fun _ _ _ _ _ _ us hl => match us, hl with | [_], _ => rfl),
      d_law_mirror := FK.at_mk KX G ?q40_a ?q40_l ?q40_c ?q40_k (fun _ _ _ _ _ _ us hl => match us, hl with | [_, _, _], _ => rfl),
      d_law_crossed := FK.at_mk KX G ?q41_a ?q41_l ?q41_c ?q41_k (fun _ _ _ _ _ _ us hl => match us, hl with | [_, _, _], _ => rfl),
      d_law_parting := FK.at_mk KX G ?q42_a ?q42_l ?q42_c ?q42_k (fun _ _ _ _ _ _ us hl => match us, hl with | [_, _], _ => rfl),
      d_law_sorted := FK.at_mk KX G ?q43_a ?q43_l ?q43_c ?q43_k (fun _ _ _ _ _ _ us hl => match us, hl with | [_], _ => rfl),
      d_law_hull := FK.at_mk KX G ?q44_a ?q44_l ?q44_c ?q44_k (fun _ _ _ _ _ _ us hl => match us, hl with | [_, _], _ => rfl),
      d_law_told := FK.at_mk KX G ?q45_a ?q45_l ?q45_c ?q45_k (fun _ _ _ _ _ _ us hl => match us, hl with | [_, _, _], _ => rfl),
      d_law := FK.at_mk KX G ?q46_a ?q46_l ?q46_c ?q46_k (fun _ _ _ _ _ _ us hl => match us, hl with | [_], _ => rfl),
      g_Floor := PySem.W.mg_of KX G ?q47_a,
      cl_Floor := ⟨?q48_pg, ?q48_hd, ?q48_po, ?q48_sa⟩,
      nF_Floor_orders := FK.noattr_mk ?q49_a,
      nF_Floor_scales := FK.noattr_mk ?q50_a,
      g_Tiles := PySem.W.mg_of KX G ?q51_a,
      cl_Tiles := ⟨?q52_pg, ?q52_hd, ?q52_po, ?q52_sa⟩,
      nF_Tiles_floor := FK.noattr_mk ?q53_a,
      nF_Tiles_normals := FK.noattr_mk ?q54_a,
      n_all := PySem.W.mg_none_of KX G ?q55_a,
      n_bool := PySem.W.mg_none_of KX G ?q56_a,
      n_int := PySem.W.mg_none_of KX G ?q57_a,
      n_isinstance := PySem.W.mg_none_of KX G ?q58_a,
      n_len := PySem.W.mg_none_of KX G ?q59_a,
      n_list := PySem.W.mg_none_of KX G ?q60_a,
      n_max := PySem.W.mg_none_of KX G ?q61_a,
      n_range := PySem.W.mg_none_of KX G ?q62_a,
      n_repr := PySem.W.mg_none_of KX G ?q63_a,
      n_sorted := PySem.W.mg_none_of KX G ?q64_a,
      n_tuple := PySem.W.mg_none_of KX G ?q65_a,
      x_FoldError := FK.xc_mk KX G ?q66_a ?q66_k ?q66_x ?q66_b ?q66_t ?q66_c ?q66_e1 ?q66_e2 ?q66_e4 ?q66_e5 ?q66_e6 ?q66_e7 ?q66_e8,
      x_NotOrders := FK.xc_mk KX G ?q67_a ?q67_k ?q67_x ?q67_b ?q67_t ?q67_c ?q67_e1 ?q67_e2 ?q67_e4 ?q67_e5 ?q67_e6 ?q67_e7 ?q67_e8,
      x_NotWord := FK.xc_mk KX G ?q68_a ?q68_k ?q68_x ?q68_b ?q68_t ?q68_c ?q68_e1 ?q68_e2 ?q68_e4 ?q68_e5 ?q68_e6 ?q68_e7 ?q68_e8,
      x_NotPolygon := FK.xc_mk KX G ?q69_a ?q69_k ?q69_x ?q69_b ?q69_t ?q69_c ?q69_e1 ?q69_e2 ?q69_e4 ?q69_e5 ?q69_e6 ?q69_e7 ?q69_e8,
      x_TooLarge := FK.xc_mk KX G ?q70_a ?q70_k ?q70_x ?q70_b ?q70_t ?q70_c ?q70_e1 ?q70_e2 ?q70_e4 ?q70_e5 ?q70_e6 ?q70_e7 ?q70_e8,
      x_NoAnswer := FK.xc_mk KX G ?q71_a ?q71_k ?q71_x ?q71_b ?q71_t ?q71_c ?q71_e1 ?q71_e2 ?q71_e4 ?q71_e5 ?q71_e6 ?q71_e7 ?q71_e8,
      c_LETTERS := PySem.W.mg_of KX G ?q72_a,
      c_MOST_LETTERS := PySem.W.mg_of KX G ?q73_a,
      c_GUARD := PySem.W.mg_of KX G ?q74_a,
      c_SIZE := PySem.W.mg_of KX G ?q75_a,
      c_MOST_TILES := PySem.W.mg_of KX G ?q76_a,
      c_MOST_WORDS := PySem.W.mg_of KX G ?q77_a,
      c_MOST_HULL := PySem.W.mg_of KX G ?q78_a,
      c_MOST_REMEMBERED := PySem.W.mg_of KX G ?q79_a,
      exm_NotOrders_NotOrders := PySem.W.exm_ref ?q80_a ?q80_b ?q80_c ?q80_d,
      exm_NotOrders_NotWord := PySem.W.exm_ref ?q81_a ?q81_b ?q81_c ?q81_d,
      exm_NotOrders_NoAnswer := PySem.W.exm_ref ?q82_a ?q82_b ?q82_c ?q82_d,
      exm_NotOrders_TooLarge := PySem.W.exm_ref ?q83_a ?q83_b ?q83_c ?q83_d,
      exm_NotOrders_NotPolygon := PySem.W.exm_ref ?q84_a ?q84_b ?q84_c ?q84_d,
      exm_NotWord_NotOrders := PySem.W.exm_ref ?q85_a ?q85_b ?q85_c ?q85_d,
      exm_NotWord_NotWord := PySem.W.exm_ref ?q86_a ?q86_b ?q86_c ?q86_d,
      exm_NotWord_NoAnswer := PySem.W.exm_ref ?q87_a ?q87_b ?q87_c ?q87_d,
      exm_NotWord_TooLarge := PySem.W.exm_ref ?q88_a ?q88_b ?q88_c ?q88_d,
      exm_NotWord_NotPolygon := PySem.W.exm_ref ?q89_a ?q89_b ?q89_c ?q89_d,
      exm_NoAnswer_NotOrders := PySem.W.exm_ref ?q90_a ?q90_b ?q90_c ?q90_d,
      exm_NoAnswer_NotWord := PySem.W.exm_ref ?q91_a ?q91_b ?q91_c ?q91_d,
      exm_NoAnswer_NoAnswer := PySem.W.exm_ref ?q92_a ?q92_b ?q92_c ?q92_d,
      exm_NoAnswer_TooLarge := PySem.W.exm_ref ?q93_a ?q93_b ?q93_c ?q93_d,
      exm_NoAnswer_NotPolygon := PySem.W.exm_ref ?q94_a ?q94_b ?q94_c ?q94_d,
      exm_TooLarge_NotOrders := PySem.W.exm_ref ?q95_a ?q95_b ?q95_c ?q95_d,
      exm_TooLarge_NotWord := PySem.W.exm_ref ?q96_a ?q96_b ?q96_c ?q96_d,
      exm_TooLarge_NoAnswer := PySem.W.exm_ref ?q97_a ?q97_b ?q97_c ?q97_d,
      exm_TooLarge_TooLarge := PySem.W.exm_ref ?q98_a ?q98_b ?q98_c ?q98_d,
      exm_TooLarge_NotPolygon := PySem.W.exm_ref ?q99_a ?q99_b ?q99_c ?q99_d,
      exm_NotPolygon_NotOrders := PySem.W.exm_ref ?q100_a ?q100_b ?q100_c ?q100_d,
      exm_NotPolygon_NotWord := PySem.W.exm_ref ?q101_a ?q101_b ?q101_c ?q101_d,
      exm_NotPolygon_NoAnswer := PySem.W.exm_ref ?q102_a ?q102_b ?q102_c ?q102_d,
      exm_NotPolygon_TooLarge := PySem.W.exm_ref ?q103_a ?q103_b ?q103_c ?q103_d,
      exm_NotPolygon_NotPolygon := PySem.W.exm_ref ?q104_a ?q104_b ?q104_c ?q104_d,
      kit_TooLarge_NotPolygon := FK.kit_mk ?q105_rfl ?q105_a ?q105_b ?q105_c }
    (case q47_a => k_is)
    (case q51_a => k_is)
    (case q1_a => k_is)
    (case q1_l => k_is)
    (case q1_c => k_is)
    (case q1_k => k_is)
    (case q2_a => k_is)
    (case q2_l => k_is)
    (case q2_c => k_is)
    (case q2_k => k_is)
    (case q3_a => k_is)
    (case q3_l => k_is)
    (case q3_c => k_is)
    (case q3_k => k_is)
    (case q4_a => k_is)
    (case q4_l => k_is)
    (case q4_c => k_is)
    (case q4_k => k_is)
    (case q5_a => k_is)
    (case q5_l => k_is)
    (case q5_c => k_is)
    (case q5_k => k_is)
    (case q6_a => k_is)
    (case q6_l => k_is)
    (case q6_c => k_is)
    (case q6_k => k_is)
    (case q7_a => k_is)
    (case q7_l => k_is)
    (case q7_c => k_is)
    (case q7_k => k_is)
    (case q8_a => k_is)
    (case q8_l => k_is)
    (case q8_c => k_is)
    (case q8_k => k_is)
    (case q9_a => k_is)
    (case q9_l => k_is)
    (case q9_c => k_is)
    (case q9_k => k_is)
    (case q10_a => k_is)
    (case q10_l => k_is)
    (case q10_c => k_is)
    (case q10_k => k_is)
    (case q11_a => k_is)
    (case q11_l => k_is)
    (case q11_c => k_is)
    (case q11_k => k_is)
    (case q12_a => k_is)
    (case q12_l => k_is)
    (case q12_c => k_is)
    (case q12_k => k_is)
    (case q13_a => k_is)
    (case q13_l => k_is)
    (case q13_c => k_is)
    (case q13_k => k_is)
    (case q14_a => k_is)
    (case q14_l => k_is)
    (case q14_c => k_is)
    (case q14_k => k_is)
    (case q15_a => k_is)
    (case q15_l => k_is)
    (case q15_c => k_is)
    (case q15_k => k_is)
    (case q16_a => k_is)
    (case q16_l => k_is)
    (case q16_c => k_is)
    (case q16_k => k_is)
    (case q17_a => k_is)
    (case q17_l => k_is)
    (case q17_c => k_is)
    (case q17_k => k_is)
    (case q18_mk => (try dsimp only); k_is)
    (case q18_a => (try dsimp only); k_is)
    (case q18_i => (try dsimp only); k_is)
    (case q18_kc => (try dsimp only); k_is)
    (case q18_l => (try dsimp only); k_is)
    (case q18_c => (try dsimp only); k_is)
    (case q18_k => (try dsimp only); k_is)
    (case q19_a => (try dsimp only); k_is)
    (case q19_i => (try dsimp only); k_is)
    (case q19_l => (try dsimp only); k_is)
    (case q19_c => (try dsimp only); k_is)
    (case q19_k => (try dsimp only); k_is)
    (case q20_a => (try dsimp only); k_is)
    (case q20_i => (try dsimp only); k_is)
    (case q20_l => (try dsimp only); k_is)
    (case q20_c => (try dsimp only); k_is)
    (case q20_k => (try dsimp only); k_is)
    (case q21_a => k_is)
    (case q21_l => k_is)
    (case q21_c => k_is)
    (case q21_k => k_is)
    (case q22_a => k_is)
    (case q22_l => k_is)
    (case q22_c => k_is)
    (case q22_k => k_is)
    (case q23_a => k_is)
    (case q23_l => k_is)
    (case q23_c => k_is)
    (case q23_k => k_is)
    (case q24_a => k_is)
    (case q24_l => k_is)
    (case q24_c => k_is)
    (case q24_k => k_is)
    (case q25_a => k_is)
    (case q25_l => k_is)
    (case q25_c => k_is)
    (case q25_k => k_is)
    (case q26_a => k_is)
    (case q26_l => k_is)
    (case q26_c => k_is)
    (case q26_k => k_is)
    (case q27_a => k_is)
    (case q27_l => k_is)
    (case q27_c => k_is)
    (case q27_k => k_is)
    (case q28_a => k_is)
    (case q28_l => k_is)
    (case q28_c => k_is)
    (case q28_k => k_is)
    (case q29_a => k_is)
    (case q29_l => k_is)
    (case q29_c => k_is)
    (case q29_k => k_is)
    (case q30_a => k_is)
    (case q30_l => k_is)
    (case q30_c => k_is)
    (case q30_k => k_is)
    (case q31_mk => (try dsimp only); k_is)
    (case q31_a => (try dsimp only); k_is)
    (case q31_i => (try dsimp only); k_is)
    (case q31_kc => (try dsimp only); k_is)
    (case q31_l => (try dsimp only); k_is)
    (case q31_c => (try dsimp only); k_is)
    (case q31_k => (try dsimp only); k_is)
    (case q32_a => (try dsimp only); k_is)
    (case q32_i => (try dsimp only); k_is)
    (case q32_l => (try dsimp only); k_is)
    (case q32_c => (try dsimp only); k_is)
    (case q32_k => (try dsimp only); k_is)
    (case q33_a => (try dsimp only); k_is)
    (case q33_i => (try dsimp only); k_is)
    (case q33_l => (try dsimp only); k_is)
    (case q33_c => (try dsimp only); k_is)
    (case q33_k => (try dsimp only); k_is)
    (case q34_a => (try dsimp only); k_is)
    (case q34_i => (try dsimp only); k_is)
    (case q34_l => (try dsimp only); k_is)
    (case q34_c => (try dsimp only); k_is)
    (case q34_k => (try dsimp only); k_is)
    (case q35_a => k_is)
    (case q35_l => k_is)
    (case q35_c => k_is)
    (case q35_k => k_is)
    (case q36_a => k_is)
    (case q36_l => k_is)
    (case q36_c => k_is)
    (case q36_k => k_is)
    (case q37_a => k_is)
    (case q37_l => k_is)
    (case q37_c => k_is)
    (case q37_k => k_is)
    (case q38_a => k_is)
    (case q38_l => k_is)
    (case q38_c => k_is)
    (case q38_k => k_is)
    (case q39_a => k_is)
    (case q39_l => k_is)
    (case q39_c => k_is)
    (case q39_k => k_is)
    (case q40_a => k_is)
    (case q40_l => k_is)
    (case q40_c => k_is)
    (case q40_k => k_is)
    (case q41_a => k_is)
    (case q41_l => k_is)
    (case q41_c => k_is)
    (case q41_k => k_is)
    (case q42_a => k_is)
    (case q42_l => k_is)
    (case q42_c => k_is)
    (case q42_k => k_is)
    (case q43_a => k_is)
    (case q43_l => k_is)
    (case q43_c => k_is)
    (case q43_k => k_is)
    (case q44_a => k_is)
    (case q44_l => k_is)
    (case q44_c => k_is)
    (case q44_k => k_is)
    (case q45_a => k_is)
    (case q45_l => k_is)
    (case q45_c => k_is)
    (case q45_k => k_is)
    (case q46_a => k_is)
    (case q46_l => k_is)
    (case q46_c => k_is)
    (case q46_k => k_is)
    (case q48_pg => (try dsimp only); k_is)
    (case q48_hd => (try dsimp only); k_is)
    (case q48_po => (try dsimp only); k_is)
    (case q48_sa => (try dsimp only); k_is)
    (case q49_a => (try dsimp only); k_is)
    (case q50_a => (try dsimp only); k_is)
    (case q52_pg => (try dsimp only); k_is)
    (case q52_hd => (try dsimp only); k_is)
    (case q52_po => (try dsimp only); k_is)
    (case q52_sa => (try dsimp only); k_is)
    (case q53_a => (try dsimp only); k_is)
    (case q54_a => (try dsimp only); k_is)
    (case q55_a => (try dsimp only); k_is)
    (case q56_a => (try dsimp only); k_is)
    (case q57_a => (try dsimp only); k_is)
    (case q58_a => (try dsimp only); k_is)
    (case q59_a => (try dsimp only); k_is)
    (case q60_a => (try dsimp only); k_is)
    (case q61_a => (try dsimp only); k_is)
    (case q62_a => (try dsimp only); k_is)
    (case q63_a => (try dsimp only); k_is)
    (case q64_a => (try dsimp only); k_is)
    (case q65_a => (try dsimp only); k_is)
    (case q66_a => (try dsimp only); k_is)
    (case q66_k => (try dsimp only); k_is)
    (case q66_x => (try dsimp only); k_exc)
    (case q66_b => (try dsimp only); k_is)
    (case q66_t => (try dsimp only); k_is)
    (case q66_c => (try dsimp only); k_is)
    (case q66_e1 => (try dsimp only); k_is)
    (case q66_e2 => (try dsimp only); k_is)
    (case q66_e4 => (try dsimp only); k_is)
    (case q66_e5 => (try dsimp only); k_is)
    (case q66_e6 => (try dsimp only); k_is)
    (case q66_e7 => (try dsimp only); k_is)
    (case q66_e8 => (try dsimp only); k_is)
    (case q67_a => (try dsimp only); k_is)
    (case q67_k => (try dsimp only); k_is)
    (case q67_x => (try dsimp only); k_exc)
    (case q67_b => (try dsimp only); k_is)
    (case q67_t => (try dsimp only); k_is)
    (case q67_c => (try dsimp only); k_is)
    (case q67_e1 => (try dsimp only); k_is)
    (case q67_e2 => (try dsimp only); k_is)
    (case q67_e4 => (try dsimp only); k_is)
    (case q67_e5 => (try dsimp only); k_is)
    (case q67_e6 => (try dsimp only); k_is)
    (case q67_e7 => (try dsimp only); k_is)
    (case q67_e8 => (try dsimp only); k_is)
    (case q68_a => (try dsimp only); k_is)
    (case q68_k => (try dsimp only); k_is)
    (case q68_x => (try dsimp only); k_exc)
    (case q68_b => (try dsimp only); k_is)
    (case q68_t => (try dsimp only); k_is)
    (case q68_c => (try dsimp only); k_is)
    (case q68_e1 => (try dsimp only); k_is)
    (case q68_e2 => (try dsimp only); k_is)
    (case q68_e4 => (try dsimp only); k_is)
    (case q68_e5 => (try dsimp only); k_is)
    (case q68_e6 => (try dsimp only); k_is)
    (case q68_e7 => (try dsimp only); k_is)
    (case q68_e8 => (try dsimp only); k_is)
    (case q69_a => (try dsimp only); k_is)
    (case q69_k => (try dsimp only); k_is)
    (case q69_x => (try dsimp only); k_exc)
    (case q69_b => (try dsimp only); k_is)
    (case q69_t => (try dsimp only); k_is)
    (case q69_c => (try dsimp only); k_is)
    (case q69_e1 => (try dsimp only); k_is)
    (case q69_e2 => (try dsimp only); k_is)
    (case q69_e4 => (try dsimp only); k_is)
    (case q69_e5 => (try dsimp only); k_is)
    (case q69_e6 => (try dsimp only); k_is)
    (case q69_e7 => (try dsimp only); k_is)
    (case q69_e8 => (try dsimp only); k_is)
    (case q70_a => (try dsimp only); k_is)
    (case q70_k => (try dsimp only); k_is)
    (case q70_x => (try dsimp only); k_exc)
    (case q70_b => (try dsimp only); k_is)
    (case q70_t => (try dsimp only); k_is)
    (case q70_c => (try dsimp only); k_is)
    (case q70_e1 => (try dsimp only); k_is)
    (case q70_e2 => (try dsimp only); k_is)
    (case q70_e4 => (try dsimp only); k_is)
    (case q70_e5 => (try dsimp only); k_is)
    (case q70_e6 => (try dsimp only); k_is)
    (case q70_e7 => (try dsimp only); k_is)
    (case q70_e8 => (try dsimp only); k_is)
    (case q71_a => (try dsimp only); k_is)
    (case q71_k => (try dsimp only); k_is)
    (case q71_x => (try dsimp only); k_exc)
    (case q71_b => (try dsimp only); k_is)
    (case q71_t => (try dsimp only); k_is)
    (case q71_c => (try dsimp only); k_is)
    (case q71_e1 => (try dsimp only); k_is)
    (case q71_e2 => (try dsimp only); k_is)
    (case q71_e4 => (try dsimp only); k_is)
    (case q71_e5 => (try dsimp only); k_is)
    (case q71_e6 => (try dsimp only); k_is)
    (case q71_e7 => (try dsimp only); k_is)
    (case q71_e8 => (try dsimp only); k_is)
    (case q72_a => (try dsimp only); k_is)
    (case q73_a => (try dsimp only); k_is)
    (case q74_a => (try dsimp only); k_is)
    (case q75_a => (try dsimp only); k_is)
    (case q76_a => (try dsimp only); k_is)
    (case q77_a => (try dsimp only); k_is)
    (case q78_a => (try dsimp only); k_is)
    (case q79_a => (try dsimp only); k_is)
    (case q80_a => (try dsimp only); k_is)
    (case q80_b => (try dsimp only); k_is)
    (case q80_c => (try dsimp only); k_is)
    (case q80_d => (try dsimp only); k_is)
    (case q81_a => (try dsimp only); k_is)
    (case q81_b => (try dsimp only); k_is)
    (case q81_c => (try dsimp only); k_is)
    (case q81_d => (try dsimp only); k_is)
    (case q82_a => (try dsimp only); k_is)
    (case q82_b => (try dsimp only); k_is)
    (case q82_c => (try dsimp only); k_is)
    (case q82_d => (try dsimp only); k_is)
    (case q83_a => (try dsimp only); k_is)
    (case q83_b => (try dsimp only); k_is)
    (case q83_c => (try dsimp only); k_is)
    (case q83_d => (try dsimp only); k_is)
    (case q84_a => (try dsimp only); k_is)
    (case q84_b => (try dsimp only); k_is)
    (case q84_c => (try dsimp only); k_is)
    (case q84_d => (try dsimp only); k_is)
    (case q85_a => (try dsimp only); k_is)
    (case q85_b => (try dsimp only); k_is)
    (case q85_c => (try dsimp only); k_is)
    (case q85_d => (try dsimp only); k_is)
    (case q86_a => (try dsimp only); k_is)
    (case q86_b => (try dsimp only); k_is)
    (case q86_c => (try dsimp only); k_is)
    (case q86_d => (try dsimp only); k_is)
    (case q87_a => (try dsimp only); k_is)
    (case q87_b => (try dsimp only); k_is)
    (case q87_c => (try dsimp only); k_is)
    (case q87_d => (try dsimp only); k_is)
    (case q88_a => (try dsimp only); k_is)
    (case q88_b => (try dsimp only); k_is)
    (case q88_c => (try dsimp only); k_is)
    (case q88_d => (try dsimp only); k_is)
    (case q89_a => (try dsimp only); k_is)
    (case q89_b => (try dsimp only); k_is)
    (case q89_c => (try dsimp only); k_is)
    (case q89_d => (try dsimp only); k_is)
    (case q90_a => (try dsimp only); k_is)
    (case q90_b => (try dsimp only); k_is)
    (case q90_c => (try dsimp only); k_is)
    (case q90_d => (try dsimp only); k_is)
    (case q91_a => (try dsimp only); k_is)
    (case q91_b => (try dsimp only); k_is)
    (case q91_c => (try dsimp only); k_is)
    (case q91_d => (try dsimp only); k_is)
    (case q92_a => (try dsimp only); k_is)
    (case q92_b => (try dsimp only); k_is)
    (case q92_c => (try dsimp only); k_is)
    (case q92_d => (try dsimp only); k_is)
    (case q93_a => (try dsimp only); k_is)
    (case q93_b => (try dsimp only); k_is)
    (case q93_c => (try dsimp only); k_is)
    (case q93_d => (try dsimp only); k_is)
    (case q94_a => (try dsimp only); k_is)
    (case q94_b => (try dsimp only); k_is)
    (case q94_c => (try dsimp only); k_is)
    (case q94_d => (try dsimp only); k_is)
    (case q95_a => (try dsimp only); k_is)
    (case q95_b => (try dsimp only); k_is)
    (case q95_c => (try dsimp only); k_is)
    (case q95_d => (try dsimp only); k_is)
    (case q96_a => (try dsimp only); k_is)
    (case q96_b => (try dsimp only); k_is)
    (case q96_c => (try dsimp only); k_is)
    (case q96_d => (try dsimp only); k_is)
    (case q97_a => (try dsimp only); k_is)
    (case q97_b => (try dsimp only); k_is)
    (case q97_c => (try dsimp only); k_is)
    (case q97_d => (try dsimp only); k_is)
    (case q98_a => (try dsimp only); k_is)
    (case q98_b => (try dsimp only); k_is)
    (case q98_c => (try dsimp only); k_is)
    (case q98_d => (try dsimp only); k_is)
    (case q99_a => (try dsimp only); k_is)
    (case q99_b => (try dsimp only); k_is)
    (case q99_c => (try dsimp only); k_is)
    (case q99_d => (try dsimp only); k_is)
    (case q100_a => (try dsimp only); k_is)
    (case q100_b => (try dsimp only); k_is)
    (case q100_c => (try dsimp only); k_is)
    (case q100_d => (try dsimp only); k_is)
    (case q101_a => (try dsimp only); k_is)
    (case q101_b => (try dsimp only); k_is)
    (case q101_c => (try dsimp only); k_is)
    (case q101_d => (try dsimp only); k_is)
    (case q102_a => (try dsimp only); k_is)
    (case q102_b => (try dsimp only); k_is)
    (case q102_c => (try dsimp only); k_is)
    (case q102_d => (try dsimp only); k_is)
    (case q103_a => (try dsimp only); k_is)
    (case q103_b => (try dsimp only); k_is)
    (case q103_c => (try dsimp only); k_is)
    (case q103_d => (try dsimp only); k_is)
    (case q104_a => (try dsimp only); k_is)
    (case q104_b => (try dsimp only); k_is)
    (case q104_c => (try dsimp only); k_is)
    (case q104_d => (try dsimp only); k_is)
    (case q105_rfl => dsimp only; decide)
    (case q105_a => (try dsimp only); k_is)
    (case q105_b => (try dsimp only); k_is)
    (case q105_c => (try dsimp only); k_is)
#print axioms PySem.Challenge.cw_foldfloor_k32_hulls_holds

