import PyProof.Rows.All
import Wide.All
import OpenK.AllK
import Wide.FinOn
import PyProof.EqAt
import PyProof.EqKinds
import PyProof.TupleCall
import PyProof.ReprRoads
import HandS.ForMost
import HandS.Exc
import HandS.TryOnly
import HandS.ExcOwn
import HandS.WordsExc
import HandS.IsInst
import HandS.ExcIs
import HandS.FStr
import HandS.RaiseMore
import HandS.Wide
import HandS.Zip
import HandS.NoneIn
import HandS.Codes
import HandS.Gcd
import HandS.EndBits
import HandS.Walk
import HandS.Style
import KE.GoesMore
import KE.GoesZip
import PyProof.StrOps2
import HandS.HotCalls
import HandS.WideBits
import PySem.Challenge.RW_foldfloor_k35_gates_at_corners
set_option Elab.async false
set_option linter.all false
set_option maxRecDepth 100000
set_option maxHeartbeats 8000000
/-! Words of three letters, turns and cuts: what leads where, lengths, parities. -/
namespace Cox
abbrev W := List (Fin 3)
/-- two letters in turns -/
def alt (i j : Fin 3) : Nat → W
  | 0 => []
  | n + 1 => i :: alt j i n
theorem alt_length (i j : Fin 3) (n : Nat) : (alt i j n).length = n := by
  induction n generalizing i j with
  | zero => rfl
  | succ n ih => rw [alt, List.length_cons, ih]
/-- the n-th letter in turns -/
def nth (i j : Fin 3) (n : Nat) : Fin 3 := if n % 2 = 0 then i else j
theorem nth_succ (i j : Fin 3) (n : Nat) : nth i j (n + 1) = nth j i n := by
  unfold nth
  by_cases h : n % 2 = 0
  · rw [if_pos h, if_neg (by omega)]
  · rw [if_neg h, if_pos (by omega)]
theorem alt_snoc (i j : Fin 3) (n : Nat) : alt i j (n + 1) = alt i j n ++ [nth i j n] := by
  induction n generalizing i j with
  | zero => rfl
  | succ n ih =>
    show i :: alt j i (n + 1) = i :: alt j i n ++ [nth i j (n + 1)]
    rw [ih, nth_succ]
    rfl
theorem alt_reverse (i j : Fin 3) (n : Nat) : (alt i j n).reverse = if n % 2 = 0 then alt j i n else alt i j n := by
  induction n generalizing i j with
  | zero => rfl
  | succ n ih =>
    have e : (alt i j (n + 1)).reverse = nth i j n :: (alt i j n).reverse := by
      rw [alt_snoc, List.reverse_append]
      rfl
    rw [e, ih]
    by_cases h : n % 2 = 0
    · rw [if_pos h, if_neg (by omega), nth, if_pos h]
      rfl
    · rw [if_neg h, if_pos (by omega), nth, if_neg h]
      rfl
section
variable (m : Fin 3 → Fin 3 → Nat)
/-- a cut or a turn -/
inductive Step : W → W → Prop
  | cut (u v : W) (i : Fin 3) : Step (u ++ i :: i :: v) (u ++ v)
  | turn (u v : W) (i j : Fin 3) (h : i ≠ j) (h0 : m i j ≠ 0) : Step (u ++ (alt i j (m i j) ++ v)) (u ++ (alt j i (m i j) ++ v))
/-- they lead to the same tile -/
inductive Eqv : W → W → Prop
  | refl (u : W) : Eqv u u
  | step {u v : W} : Step m u v → Eqv u v
  | symm {u v : W} : Eqv u v → Eqv v u
  | trans {u v w : W} : Eqv u v → Eqv v w → Eqv u w
end
variable {m : Fin 3 → Fin 3 → Nat}
theorem Step.app {u v : W} (h : Step m u v) (x y : W) : Step m (x ++ u ++ y) (x ++ v ++ y) := by
  cases h with
  | cut u v i =>
    have := Step.cut (m := m) (x ++ u) (v ++ y) i
    simpa using this
  | turn u v i j h h0 =>
    have := Step.turn (m := m) (x ++ u) (v ++ y) i j h h0
    simpa using this
theorem Eqv.app {u v : W} (h : Eqv m u v) (x y : W) : Eqv m (x ++ u ++ y) (x ++ v ++ y) := by
  induction h with
  | refl u => exact .refl _
  | step h => exact .step (h.app x y)
  | symm _ ih => exact ih.symm
  | trans _ _ ih1 ih2 => exact ih1.trans ih2
theorem Eqv.left {u v : W} (h : Eqv m u v) (x : W) : Eqv m (x ++ u) (x ++ v) := by
  have := h.app x []
  rwa [List.append_nil, List.append_nil] at this
theorem Eqv.right {u v : W} (h : Eqv m u v) (y : W) : Eqv m (u ++ y) (v ++ y) := h.app [] y
theorem Eqv.mul {u v x y : W} (h : Eqv m u v) (k : Eqv m x y) : Eqv m (u ++ x) (v ++ y) := (h.right x).trans (k.left v)
theorem Eqv.parity {u v : W} (h : Eqv m u v) : u.length % 2 = v.length % 2 := by
  induction h with
  | refl u => rfl
  | step h =>
    cases h with
    | cut u v i => simp only [List.length_append, List.length_cons]; omega
    | turn u v i j h h0 => simp only [List.length_append, alt_length]
  | symm _ ih => exact ih.symm
  | trans _ _ ih1 ih2 => exact ih1.trans ih2
theorem Eqv.cancel (i : Fin 3) : Eqv m [i, i] [] := .step (.cut [] [] i)
theorem Eqv.inv_right (u : W) : Eqv m (u ++ u.reverse) [] := by
  induction u with
  | nil => exact .refl _
  | cons i u ih =>
    rw [List.reverse_cons]
    have h := ih.app [i] [i]
    have h2 : Eqv m ([i] ++ [] ++ [i]) [] := .cancel i
    have e : i :: u ++ (u.reverse ++ [i]) = [i] ++ (u ++ u.reverse) ++ [i] := by simp
    rw [e]
    exact h.trans h2
theorem Eqv.inv_left (u : W) : Eqv m (u.reverse ++ u) [] := by
  have := Eqv.inv_right (m := m) u.reverse
  rwa [List.reverse_reverse] at this
/-- inverses of what leads to the same tile do so -/
theorem Eqv.rev {u v : W} (h : Eqv m u v) : Eqv m u.reverse v.reverse := by
  have h1 : Eqv m (u.reverse ++ (v ++ v.reverse)) (u.reverse ++ []) := (Eqv.inv_right v).left _
  have h2 : Eqv m (u.reverse ++ u ++ v.reverse) (u.reverse ++ v ++ v.reverse) := h.app _ _
  have h3 : Eqv m (u.reverse ++ u ++ v.reverse) ([] ++ v.reverse) := (Eqv.inv_left u).right _
  rw [List.append_nil] at h1
  rw [← List.append_assoc] at h1
  exact h1.symm.trans (h2.symm.trans h3)
theorem Eqv.cancel_right {u v x : W} (h : Eqv m (u ++ x) (v ++ x)) : Eqv m u v := by
  have h1 := h.right x.reverse
  have e : ∀ z : W, Eqv m (z ++ x ++ x.reverse) z := fun z => by
    have := (Eqv.inv_right (m := m) x).left z
    rwa [List.append_nil, ← List.append_assoc] at this
  exact (e u).symm.trans (h1.trans (e v))
theorem Eqv.cancel_left {u v x : W} (h : Eqv m (x ++ u) (x ++ v)) : Eqv m u v := by
  have h1 := h.left x.reverse
  have e : ∀ z : W, Eqv m (x.reverse ++ (x ++ z)) z := fun z => by
    have := (Eqv.inv_left (m := m) x).right z
    rwa [List.append_assoc] at this
  exact (e u).symm.trans (h1.trans (e v))
/-! lengths of tiles -/
theorem least_ex (w : W) : ∃ n : Nat, (∃ u, Eqv m w u ∧ u.length = n) ∧ ∀ u, Eqv m w u → n ≤ u.length := by
  have : ∀ k : Nat, ∀ u, Eqv m w u → u.length ≤ k → ∃ n : Nat, (∃ u, Eqv m w u ∧ u.length = n) ∧ ∀ u, Eqv m w u → n ≤ u.length := by
    intro k
    induction k with
    | zero => exact fun u hu hl => ⟨0, ⟨u, hu, by omega⟩, fun _ _ => Nat.zero_le _⟩
    | succ k ih =>
      intro u hu hl
      by_cases c : ∃ v, Eqv m w v ∧ v.length ≤ k
      · obtain ⟨v, hv, hvl⟩ := c
        exact ih v hv hvl
      · refine ⟨k + 1, ⟨u, hu, ?_⟩, fun v hv => ?_⟩
        · have : ¬ u.length ≤ k := fun z => c ⟨u, hu, z⟩
          omega
        · have : ¬ v.length ≤ k := fun z => c ⟨v, hv, z⟩
          omega
  exact this w.length w (.refl w) (Nat.le_refl _)
noncomputable def ln (m : Fin 3 → Fin 3 → Nat) (w : W) : Nat := Classical.choose (least_ex (m := m) w)
theorem ln_ex (w : W) : ∃ u, Eqv m w u ∧ u.length = ln m w := (Classical.choose_spec (least_ex (m := m) w)).1
theorem ln_le {w u : W} (h : Eqv m w u) : ln m w ≤ u.length := (Classical.choose_spec (least_ex (m := m) w)).2 u h
theorem ln_self (w : W) : ln m w ≤ w.length := ln_le (.refl w)
theorem ln_eqv {w u : W} (h : Eqv m w u) : ln m w = ln m u := by
  obtain ⟨v, hv, h1⟩ := ln_ex (m := m) w
  obtain ⟨x, hx, h2⟩ := ln_ex (m := m) u
  have a := ln_le (h.trans hx)
  have b := ln_le (h.symm.trans hv)
  omega
/-- a shortest word -/
def Red (m : Fin 3 → Fin 3 → Nat) (w : W) : Prop := ln m w = w.length
theorem red_ex (w : W) : ∃ u, Eqv m w u ∧ Red m u := by
  obtain ⟨u, hu, h⟩ := ln_ex (m := m) w
  exact ⟨u, hu, by rw [Red, ← ln_eqv hu, h]⟩
theorem ln_parity (w : W) : ln m w % 2 = w.length % 2 := by
  obtain ⟨u, hu, h⟩ := ln_ex (m := m) w
  rw [← h, hu.parity]
theorem ln_append (u v : W) : ln m (u ++ v) ≤ ln m u + ln m v := by
  obtain ⟨x, hx, h1⟩ := ln_ex (m := m) u
  obtain ⟨y, hy, h2⟩ := ln_ex (m := m) v
  have := ln_le (hx.mul hy)
  rw [List.length_append] at this
  omega
theorem ln_reverse (w : W) : ln m w.reverse = ln m w := by
  have one : ∀ w : W, ln m w.reverse ≤ ln m w := fun w => by
    obtain ⟨u, hu, h⟩ := ln_ex (m := m) w
    have := ln_le hu.rev
    rw [List.length_reverse] at this
    omega
  have a := one w
  have b := one w.reverse
  rw [List.reverse_reverse] at b
  omega
theorem snoc_snoc (w : W) (i : Fin 3) : Eqv m (w ++ [i] ++ [i]) w := by
  have := (Eqv.cancel (m := m) i).left w
  rw [List.append_nil] at this
  rwa [List.append_assoc]
theorem ln_snoc (w : W) (i : Fin 3) : ln m (w ++ [i]) = ln m w + 1 ∨ ln m w = ln m (w ++ [i]) + 1 := by
  have a := ln_append (m := m) w [i]
  have b := ln_append (m := m) (w ++ [i]) [i]
  rw [ln_eqv (snoc_snoc w i)] at b
  have c : ln m [i] ≤ 1 := ln_self [i]
  have p := ln_parity (m := m) w
  have q := ln_parity (m := m) (w ++ [i])
  rw [List.length_append, List.length_singleton] at q
  omega
/-- parts of shortest words are shortest -/
theorem Red.part {u v : W} (h : Red m (u ++ v)) : Red m u ∧ Red m v := by
  have a := ln_append (m := m) u v
  have b := ln_self (m := m) u
  have c := ln_self (m := m) v
  unfold Red at *
  rw [h, List.length_append] at a
  omega
theorem red_snoc {w : W} {i : Fin 3} (h : Red m w) : Red m (w ++ [i]) ↔ ln m (w ++ [i]) = ln m w + 1 := by
  unfold Red at *
  rw [List.length_append, List.length_singleton, h]
end Cox

/-! Roots: how words act on triples, over any commutative ring; turns and cuts change nothing. -/
namespace Cox
open Lean.Grind
section
variable {R : Type} [CommRing R]
abbrev V3 (R : Type) := Fin 3 → R
def bump (i : Fin 3) (t : R) (v : V3 R) : V3 R := fun k => if k = i then v k + t else v k
def dot (c : Fin 3 → Fin 3 → R) (i : Fin 3) (v : V3 R) : R := c i 0 * v 0 + c i 1 * v 1 + c i 2 * v 2
def act (c : Fin 3 → Fin 3 → R) (i : Fin 3) (v : V3 R) : V3 R := bump i (dot c i v) v
/-- a word acts, its last letter first -/
def actw (c : Fin 3 → Fin 3 → R) (w : W) (v : V3 R) : V3 R := w.foldr (act c) v
theorem actw_append (c : Fin 3 → Fin 3 → R) (u w : W) (v : V3 R) : actw c (u ++ w) v = actw c u (actw c w v) := List.foldr_append
theorem dot_bump (c : Fin 3 → Fin 3 → R) (i j : Fin 3) (t : R) (v : V3 R) : dot c i (bump j t v) = dot c i v + c i j * t := by
  have h : j = 0 ∨ j = 1 ∨ j = 2 := by
    rcases j with ⟨j, hj⟩
    have : j = 0 ∨ j = 1 ∨ j = 2 := by omega
    rcases this with rfl | rfl | rfl
    · exact .inl rfl
    · exact .inr (.inl rfl)
    · exact .inr (.inr rfl)
  unfold dot bump
  rcases h with rfl | rfl | rfl
  · rw [if_pos rfl, if_neg (by decide), if_neg (by decide)]; grind
  · rw [if_neg (by decide), if_pos rfl, if_neg (by decide)]; grind
  · rw [if_neg (by decide), if_neg (by decide), if_pos rfl]; grind
theorem bump_bump (i : Fin 3) (s t : R) (v : V3 R) : bump i s (bump i t v) = bump i (t + s) v := by
  funext k
  unfold bump
  by_cases h : k = i
  · rw [if_pos h, if_pos h, if_pos h]; grind
  · rw [if_neg h, if_neg h, if_neg h]
theorem bump_comm {i j : Fin 3} (hij : i ≠ j) (s t : R) (v : V3 R) : bump i s (bump j t v) = bump j t (bump i s v) := by
  funext k
  unfold bump
  by_cases h : k = i
  · have h2 : k ≠ j := fun z => hij (h.symm.trans z)
    rw [if_pos h, if_neg h2, if_neg h2, if_pos h]
  · rw [if_neg h]
    by_cases h2 : k = j
    · rw [if_pos h2, if_pos h2, if_neg h]
    · rw [if_neg h2, if_neg h2, if_neg h]
theorem bump_zero (i : Fin 3) (v : V3 R) : bump i 0 v = v := by
  funext k
  unfold bump
  by_cases h : k = i
  · rw [if_pos h]; grind
  · rw [if_neg h]
variable {c : Fin 3 → Fin 3 → R}
theorem act_act (h2 : ∀ i, c i i = -2) (i : Fin 3) (v : V3 R) : act c i (act c i v) = v := by
  unfold act
  rw [dot_bump, h2, bump_bump]
  have : dot c i v + (dot c i v + -2 * dot c i v) = 0 := by grind
  rw [this, bump_zero]
/-- a multiple of the i-th and of the j-th put to it -/
def st (i j : Fin 3) (p q : R) (v : V3 R) : V3 R := bump i p (bump j q v)
theorem act_st1 (h2 : ∀ i, c i i = -2) {i j : Fin 3} (p q : R) (v : V3 R) : act c i (st i j p q v) = st i j (dot c i v - p + c i j * q) q v := by
  unfold act st
  rw [dot_bump, dot_bump, h2, bump_bump]
  congr 1
  grind
theorem act_st2 (h2 : ∀ i, c i i = -2) {i j : Fin 3} (hij : i ≠ j) (p q : R) (v : V3 R) : act c j (st i j p q v) = st i j p (dot c j v - q + c j i * p) v := by
  unfold st
  rw [bump_comm hij]
  have := act_st1 h2 (i := j) (j := i) q p v
  unfold st at this
  rw [this, bump_comm hij]
/-- U 0 = 1, U 1 = b, then b times the last one less the one before -/
def U (b : R) : Nat → R
  | 0 => 1
  | 1 => b
  | k + 2 => b * U b (k + 1) - U b k
/-- the coordinate that the k-th letter in turns makes -/
def zs (b x y : R) : Nat → R
  | 0 => 0
  | 1 => x
  | k + 2 => (if k % 2 = 0 then y else x) - zs b x y k + b * zs b x y (k + 1)
theorem zs_diff (b x y : R) : ∀ k : Nat, zs b x y (k + 1) = zs b y x k + U b k * x
  | 0 => by
    show x = 0 + 1 * x
    grind
  | 1 => by
    show (if 0 % 2 = 0 then y else x) - 0 + b * x = y + b * x
    rw [if_pos rfl]
    grind
  | k + 2 => by
    have h1 := zs_diff b x y k
    have h2 := zs_diff b x y (k + 1)
    show (if (k + 1) % 2 = 0 then y else x) - zs b x y (k + 1) + b * zs b x y (k + 2) = (if k % 2 = 0 then x else y) - zs b y x k + b * zs b y x (k + 1) + (b * U b (k + 1) - U b k) * x
    by_cases e : k % 2 = 0
    · rw [if_neg (by omega), if_pos e]
      grind
    · rw [if_pos (by omega), if_neg e]
      grind
/-- letters act, the first one first -/
def actl (c : Fin 3 → Fin 3 → R) (w : W) (v : V3 R) : V3 R := w.foldl (fun v i => act c i v) v
theorem actl_reverse (w : W) (v : V3 R) : actl c w.reverse v = actw c w v := by
  unfold actl actw
  rw [List.foldl_reverse]
theorem actl_alt (h2 : ∀ i, c i i = -2) (hs : ∀ i j, c i j = c j i) {i j : Fin 3} (hij : i ≠ j) (v : V3 R) : ∀ k : Nat, actl c (alt i j k) v = if k % 2 = 0 then st i j (zs (c i j) (dot c i v) (dot c j v) (k - 1)) (zs (c i j) (dot c i v) (dot c j v) k) v else st i j (zs (c i j) (dot c i v) (dot c j v) k) (zs (c i j) (dot c i v) (dot c j v) (k - 1)) v
  | 0 => by
    show v = st i j 0 0 v
    unfold st
    rw [bump_zero, bump_zero]
  | 1 => by
    show act c i v = st i j (dot c i v) 0 v
    unfold st
    rw [bump_zero]
    rfl
  | k + 2 => by
    have ih := actl_alt h2 hs hij v (k + 1)
    rw [alt_snoc]
    unfold actl at ih ⊢
    rw [List.foldl_append, ih]
    show act c (nth i j (k + 1)) _ = _
    by_cases e : k % 2 = 0
    · rw [if_neg (by omega), if_pos (by omega), nth, if_neg (by omega), act_st2 h2 hij]
      show st i j _ (dot c j v - zs _ _ _ k + c j i * zs _ _ _ (k + 1)) v = st i j _ ((if k % 2 = 0 then dot c j v else dot c i v) - zs _ _ _ k + c i j * zs _ _ _ (k + 1)) v
      rw [if_pos e, hs j i]
      rfl
    · rw [if_pos (by omega), if_neg (by omega), nth, if_pos (by omega), act_st1 h2]
      show st i j (dot c i v - zs _ _ _ k + c i j * zs _ _ _ (k + 1)) _ v = st i j ((if k % 2 = 0 then dot c j v else dot c i v) - zs _ _ _ k + c i j * zs _ _ _ (k + 1)) _ v
      rw [if_neg e]
      rfl
theorem st_comm {i j : Fin 3} (hij : i ≠ j) (p q : R) (v : V3 R) : st i j p q v = st j i q p v := bump_comm hij _ _ _
theorem braid (h2 : ∀ i, c i i = -2) (hs : ∀ i j, c i j = c j i) {i j : Fin 3} (hij : i ≠ j) (v : V3 R) {n : Nat} (hU : U (c i j) n = 0) : actl c (alt i j (n + 1)) v = actl c (alt j i (n + 1)) v := by
  rw [actl_alt h2 hs hij, actl_alt h2 hs hij.symm, hs j i]
  have e1 := zs_diff (c i j) (dot c i v) (dot c j v) n
  have e2 := zs_diff (c i j) (dot c j v) (dot c i v) n
  rw [hU] at e1 e2
  have e3 : zs (c i j) (dot c i v) (dot c j v) (n + 1) = zs (c i j) (dot c j v) (dot c i v) n := by rw [e1]; grind
  have e4 : zs (c i j) (dot c j v) (dot c i v) (n + 1) = zs (c i j) (dot c i v) (dot c j v) n := by rw [e2]; grind
  rw [Nat.add_sub_cancel]
  by_cases e : (n + 1) % 2 = 0
  · rw [if_pos e, if_pos e, st_comm hij, e3, e4]
  · rw [if_neg e, if_neg e, st_comm hij, e3, e4]
/-- what the numbers c are to the orders -/
structure Geo (m : Fin 3 → Fin 3 → Nat) (c : Fin 3 → Fin 3 → R) : Prop where
  two : ∀ i, c i i = -2
  sym : ∀ i j, c i j = c j i
  msym : ∀ i j, m i j = m j i
  zero : ∀ i j n, i ≠ j → m i j = n + 1 → U (c i j) n = 0
variable {m : Fin 3 → Fin 3 → Nat}
theorem Geo.step (G : Geo m c) {u w : W} (h : Step m u w) (v : V3 R) : actw c u v = actw c w v := by
  cases h with
  | cut u x i =>
    rw [actw_append, actw_append]
    show actw c u (act c i (act c i (actw c x v))) = _
    rw [act_act G.two]
  | turn u x i j h h0 =>
    rw [actw_append, actw_append, actw_append, actw_append]
    congr 1
    obtain ⟨n, hn⟩ : ∃ n, m i j = n + 1 := ⟨m i j - 1, by omega⟩
    have b := braid G.two G.sym h (actw c x v) (G.zero i j n h hn)
    have r1 : ∀ (w : W) (z : V3 R), actw c w z = actl c w.reverse z := fun w z => (actl_reverse w z).symm
    rw [r1 (alt i j _), r1 (alt j i _), alt_reverse, alt_reverse, hn]
    by_cases e : (n + 1) % 2 = 0
    · rw [if_pos e, if_pos e]
      exact b.symm
    · rw [if_neg e, if_neg e]
      exact b
theorem Geo.eqv (G : Geo m c) {u w : W} (h : Eqv m u w) (v : V3 R) : actw c u v = actw c w v := by
  induction h with
  | refl u => rfl
  | step h => exact G.step h v
  | symm _ ih => exact ih.symm
  | trans _ _ ih1 ih2 => exact ih1.trans ih2
/-- the root of a mirror of the first tile -/
def e (i : Fin 3) : V3 R := fun k => if k = i then 1 else 0
end
end Cox

/-! Over a linear ordered ring: behind a longer tile a root is positive. -/
namespace Cox
open Lean.Grind
section
variable {R : Type} [CommRing R]
def lc (p : R) (x : V3 R) (q : R) (y : V3 R) : V3 R := fun k => p * x k + q * y k
theorem act_lc (c : Fin 3 → Fin 3 → R) (i : Fin 3) (p q : R) (x y : V3 R) : act c i (lc p x q y) = lc p (act c i x) q (act c i y) := by
  funext k
  unfold act bump lc dot
  by_cases h : k = i
  · simp only [if_pos h]; grind
  · simp only [if_neg h]
theorem actw_lc (c : Fin 3 → Fin 3 → R) (w : W) (p q : R) (x y : V3 R) : actw c w (lc p x q y) = lc p (actw c w x) q (actw c w y) := by
  induction w with
  | nil => rfl
  | cons i w ih =>
    show act c i (actw c w _) = lc p (act c i (actw c w x)) q (act c i (actw c w y))
    rw [ih, act_lc]
/-- U, one earlier -/
def Up (b : R) : Nat → R
  | 0 => 0
  | k + 1 => U b k
theorem U_succ (b : R) : ∀ k : Nat, U b (k + 1) = b * U b k - Up b k
  | 0 => by show b = b * 1 - 0; grind
  | k + 1 => rfl
variable {m : Fin 3 → Fin 3 → Nat} {c : Fin 3 → Fin 3 → R}
/-- two letters in turns act on the root of the one -/
theorem actl_root (G : Geo m c) {s t : Fin 3} (hst : s ≠ t) : ∀ k : Nat, actl c (alt t s k) (e s) = if k % 2 = 0 then lc (U (c s t) k) (e s) (Up (c s t) k) (e t) else lc (Up (c s t) k) (e s) (U (c s t) k) (e t)
  | 0 => by
    show e s = lc 1 (e s) 0 (e t)
    funext k
    unfold lc
    grind
  | k + 1 => by
    have ih := actl_root G hst k
    have ds : ∀ i : Fin 3, act c i (e i) = fun k => if k = i then (-1 : R) else 0 := fun i => by
      funext k
      unfold act bump e dot
      have h3 : i = 0 ∨ i = 1 ∨ i = 2 := by
        rcases i with ⟨i, hi⟩
        have : i = 0 ∨ i = 1 ∨ i = 2 := by omega
        rcases this with rfl | rfl | rfl
        · exact .inl rfl
        · exact .inr (.inl rfl)
        · exact .inr (.inr rfl)
      have h2 := G.two i
      by_cases hk : k = i
      · subst hk
        rcases h3 with rfl | rfl | rfl <;> simp <;> grind
      · simp only [if_neg hk]
    have dt : ∀ i j : Fin 3, i ≠ j → act c i (e j) = fun k => if k = j then (1 : R) else if k = i then c i j else 0 := fun i j hij => by
      funext k
      unfold act bump e dot
      have h3 : j = 0 ∨ j = 1 ∨ j = 2 := by
        rcases j with ⟨j, hj⟩
        have : j = 0 ∨ j = 1 ∨ j = 2 := by omega
        rcases this with rfl | rfl | rfl
        · exact .inl rfl
        · exact .inr (.inl rfl)
        · exact .inr (.inr rfl)
      by_cases hk : k = i
      · have hkj : k ≠ j := fun z => hij (hk.symm.trans z)
        rw [if_pos hk, if_neg hkj, if_neg hkj, if_pos hk]
        rcases h3 with rfl | rfl | rfl <;> simp <;> grind
      · rw [if_neg hk]
        by_cases hkj : k = j
        · rw [if_pos hkj, if_pos hkj]
        · rw [if_neg hkj, if_neg hkj, if_neg hk]
    rw [alt_snoc]
    unfold actl at ih ⊢
    rw [List.foldl_append, ih]
    show act c (nth t s k) _ = _
    have us := U_succ (c s t) k
    by_cases h : k % 2 = 0
    · rw [if_pos h, if_neg (by omega), nth, if_pos h, act_lc, ds, dt t s hst.symm, us, G.sym t s]
      funext i
      unfold lc e
      show _ = Up (c s t) (k + 1) * _ + _
      by_cases hi : i = s
      · have hit : i ≠ t := fun z => hst (hi.symm.trans z)
        simp only [if_pos hi, if_neg hit]
        show _ = U (c s t) k * _ + _
        grind
      · by_cases hit : i = t
        · simp only [if_neg hi, if_pos hit]
          grind
        · simp only [if_neg hi, if_neg hit]
          grind
    · rw [if_neg h, if_pos (by omega), nth, if_neg h, act_lc, ds, dt s t hst, us]
      funext i
      unfold lc e
      show _ = _ + Up (c s t) (k + 1) * _
      by_cases hi : i = s
      · have hit : i ≠ t := fun z => hst (hi.symm.trans z)
        simp only [if_pos hi, if_neg hit]
        grind
      · by_cases hit : i = t
        · simp only [if_neg hi, if_pos hit]
          show _ = _ + U (c s t) k * _
          grind
        · simp only [if_neg hi, if_neg hit]
          grind
end
section
variable {R : Type} [CommRing R] [LE R] [LT R] [Std.LawfulOrderLT R] [Std.IsLinearOrder R] [OrderedRing R]
variable {m : Fin 3 → Fin 3 → Nat} {c : Fin 3 → Fin 3 → R}
/-- no coordinate is negative, their sum is at least 1 -/
def Big (v : V3 R) : Prop := (∀ k, 0 ≤ v k) ∧ 1 ≤ v 0 + v 1 + v 2
theorem Big.lc {p q : R} {x y : V3 R} (hp : 0 ≤ p) (hq : 0 ≤ q) (hpq : 1 ≤ p + q) (hx : Big x) (hy : Big y) : Big (lc p x q y) := by
  obtain ⟨x1, x2⟩ := hx
  obtain ⟨y1, y2⟩ := hy
  refine ⟨fun k => ?_, ?_⟩
  · have a := OrderedRing.mul_nonneg hp (x1 k)
    have b := OrderedRing.mul_nonneg hq (y1 k)
    show 0 ≤ p * x k + q * y k
    grind
  · have a := OrderedRing.mul_nonneg hp (show 0 ≤ (x 0 + x 1 + x 2) - 1 by grind)
    have b := OrderedRing.mul_nonneg hq (show 0 ≤ (y 0 + y 1 + y 2) - 1 by grind)
    show 1 ≤ (p * x 0 + q * y 0) + (p * x 1 + q * y 1) + (p * x 2 + q * y 2)
    grind
/-- the numbers c, with their signs -/
structure Ord (m : Fin 3 → Fin 3 → Nat) (c : Fin 3 → Fin 3 → R) : Prop extends Geo m c where
  pos : ∀ i j k, i ≠ j → (m i j = 0 ∨ k < m i j) → 0 ≤ U (c i j) k
  one : ∀ i j k, i ≠ j → (m i j = 0 ∨ k < m i j) → 1 ≤ U (c i j) k + Up (c i j) k
theorem big_e (s : Fin 3) : Big (e s : V3 R) := by
  have h01 : (0 : R) ≤ 1 := by grind
  refine ⟨fun k => ?_, ?_⟩
  · unfold e
    by_cases h : k = s
    · rw [if_pos h]; exact h01
    · rw [if_neg h]; grind
  · have h3 : s = 0 ∨ s = 1 ∨ s = 2 := by
      rcases s with ⟨s, hs⟩
      have : s = 0 ∨ s = 1 ∨ s = 2 := by omega
      rcases this with rfl | rfl | rfl
      · exact .inl rfl
      · exact .inr (.inl rfl)
      · exact .inr (.inr rfl)
    unfold e
    rcases h3 with rfl | rfl | rfl <;> simp <;> grind
/-- the roots of two letters in turns, up to their order -/
theorem big_two (O : Ord m c) {s t : Fin 3} (hst : s ≠ t) {k : Nat} (hk : m s t = 0 ∨ k < m s t) {v : W} (hs : Big (actw c v (e s))) (ht : Big (actw c v (e t))) : Big (actw c v (actl c (alt t s k) (e s))) := by
  rw [actl_root O.toGeo hst]
  have p := O.pos s t k hst hk
  have o := O.one s t k hst hk
  have up : 0 ≤ Up (c s t) k := by
    cases k with
    | zero => show (0 : R) ≤ 0; grind
    | succ k => exact O.pos s t k hst (hk.imp id (by omega))
  by_cases h : k % 2 = 0
  · rw [if_pos h, actw_lc]
    exact Big.lc p up o hs ht
  · rw [if_neg h, actw_lc]
    exact Big.lc up p (by grind) hs ht
end
end Cox

/-! Behind each tile the root of a mirror is positive or negative, as the length grows or shrinks. -/
namespace Cox
open Lean.Grind
variable {m : Fin 3 → Fin 3 → Nat}
theorem alt_split (i j : Fin 3) (a : Nat) : ∀ b : Nat, ∃ r : W, alt i j (a + b) = alt i j a ++ r ∧ r.length = b
  | 0 => ⟨[], (List.append_nil _).symm, rfl⟩
  | b + 1 => by
    obtain ⟨r, h1, h2⟩ := alt_split i j a b
    refine ⟨r ++ [nth i j (a + b)], ?_, by rw [List.length_append, h2]; rfl⟩
    rw [show a + (b + 1) = (a + b) + 1 by omega, alt_snoc, h1, List.append_assoc]
theorem nth_cases (i j : Fin 3) (k : Nat) {x : Fin 3} (h : x = i ∨ x = j) : x = nth i j k ∨ x = nth i j (k + 1) := by
  unfold nth
  by_cases c : k % 2 = 0
  · rw [if_pos c, if_neg (by omega)]
    exact h
  · rw [if_neg c, if_pos (by omega)]
    exact h.symm
/-- no more letters in turns than the order tells -/
theorem few {w v : W} {s t : Fin 3} {k : Nat} (hst : s ≠ t) (ms : m s t = m t s) (hs : ln m (w ++ [s]) = ln m w + 1) (hw : Eqv m w (v ++ (alt t s k).reverse)) (hl : ln m w = ln m v + k) : m s t = 0 ∨ k < m s t := by
  by_cases h0 : m s t = 0
  · exact .inl h0
  · refine .inr (Nat.lt_of_not_le fun hk => ?_)
    obtain ⟨r, h1, h2⟩ := alt_split t s (m s t) (k - m s t)
    rw [show m s t + (k - m s t) = k by omega] at h1
    obtain ⟨n, hn⟩ : ∃ n, m s t = n + 1 := ⟨m s t - 1, by omega⟩
    have tu : Eqv m (alt t s (m t s)) (alt s t (m t s)) := by
      have := Step.turn (m := m) [] [] t s hst.symm (by omega)
      simp only [List.nil_append, List.append_nil] at this
      exact .step this
    have tr := tu.rev
    rw [← ms, hn, show (alt s t (n + 1)).reverse = (alt t s n).reverse ++ [s] by rw [alt, List.reverse_cons]] at tr
    have e1 : Eqv m (w ++ [s]) (v ++ r.reverse ++ (alt t s n).reverse) := by
      rw [h1, List.reverse_append, hn] at hw
      have a := hw.right [s]
      have b := tr.app (v ++ r.reverse) [s]
      have d := snoc_snoc (m := m) (v ++ r.reverse ++ (alt t s n).reverse) s
      refine a.trans ?_
      have b2 : Eqv m (v ++ (r.reverse ++ (alt t s (n + 1)).reverse) ++ [s]) (v ++ r.reverse ++ (alt t s n).reverse ++ [s] ++ [s]) := by simpa using b
      exact b2.trans d
    have a := ln_eqv e1
    have b := ln_append (m := m) (v ++ r.reverse) (alt t s n).reverse
    have d := ln_append (m := m) v r.reverse
    have f := ln_self (m := m) (alt t s n).reverse
    have g := ln_self (m := m) r.reverse
    rw [List.length_reverse, alt_length] at f
    rw [List.length_reverse, h2] at g
    omega
/-- the longest part in two letters, split off -/
theorem split_more {w : W} {s t : Fin 3} (hst : s ≠ t) : ∀ (n : Nat) (v : W) (k : Nat), ln m v ≤ n → Eqv m w (v ++ (alt t s k).reverse) → ln m w = ln m v + k → 1 ≤ k →
    ∃ v k, Eqv m w (v ++ (alt t s k).reverse) ∧ ln m w = ln m v + k ∧ 1 ≤ k ∧ ln m (v ++ [s]) = ln m v + 1 ∧ ln m (v ++ [t]) = ln m v + 1 := by
  intro n
  induction n with
  | zero =>
    intro v k hn hw hl hk
    have a := ln_snoc (m := m) v s
    have b := ln_snoc (m := m) v t
    exact ⟨v, k, hw, hl, hk, by omega, by omega⟩
  | succ n ih =>
    intro v k hn hw hl hk
    -- a letter that shortens
    have one : ∀ x : Fin 3, (x = t ∨ x = s) → ln m v = ln m (v ++ [x]) + 1 → ∃ v k, Eqv m w (v ++ (alt t s k).reverse) ∧ ln m w = ln m v + k ∧ 1 ≤ k ∧ ln m (v ++ [s]) = ln m v + 1 ∧ ln m (v ++ [t]) = ln m v + 1 := by
      intro x hx hlt
      obtain ⟨j, rfl⟩ : ∃ j, k = j + 1 := ⟨k - 1, by omega⟩
      rcases nth_cases t s j hx with e | e
      · -- it is the first one of the letters in turns
        exfalso
        rw [alt_snoc, List.reverse_append, ← e] at hw
        have hw2 : Eqv m w ((v ++ [x]) ++ (alt t s j).reverse) := by simpa using hw
        have a := ln_eqv hw2
        have b := ln_append (m := m) (v ++ [x]) (alt t s j).reverse
        have f := ln_self (m := m) (alt t s j).reverse
        rw [List.length_reverse, alt_length] at f
        omega
      · refine ih (v ++ [x]) (j + 2) (by omega) ?_ (by omega) (by omega)
        rw [show j + 2 = (j + 1) + 1 from rfl, alt_snoc, List.reverse_append, ← e]
        have a := (snoc_snoc (m := m) v x).symm.right (alt t s (j + 1)).reverse
        have b : Eqv m (v ++ (alt t s (j + 1)).reverse) (v ++ [x] ++ ([x].reverse ++ (alt t s (j + 1)).reverse)) := by simpa using a
        exact hw.trans b
    rcases ln_snoc (m := m) v s with a | a
    · rcases ln_snoc (m := m) v t with b | b
      · exact ⟨v, k, hw, hl, hk, a, b⟩
      · exact one t (.inl rfl) b
    · exact one s (.inr rfl) a
section
variable {R : Type} [CommRing R] [LE R] [LT R] [Std.LawfulOrderLT R] [Std.IsLinearOrder R] [OrderedRing R]
variable {c : Fin 3 → Fin 3 → R}
theorem ln_zero {w : W} (h : ln m w = 0) : Eqv m w [] := by
  obtain ⟨u, hu, h1⟩ := ln_ex (m := m) w
  have : u = [] := List.eq_nil_of_length_eq_zero (by omega)
  subst this
  exact hu
/-- a last letter of a shortest word -/
theorem last_ex {w : W} (h : ln m w ≠ 0) : ∃ t, ln m w = ln m (w ++ [t]) + 1 := by
  obtain ⟨u, hu, h1⟩ := ln_ex (m := m) w
  rcases List.eq_nil_or_concat u with rfl | ⟨x, t, rfl⟩
  · rw [List.length_nil] at h1
    omega
  · refine ⟨t, ?_⟩
    rw [List.concat_eq_append] at hu h1
    have a := ln_le ((hu.right [t]).trans (snoc_snoc x t))
    rw [List.length_append, List.length_singleton] at h1
    have b := ln_snoc (m := m) w t
    omega
/-- the theorem of the roots -/
theorem root_pos (O : Ord m c) : ∀ (n : Nat) (w : W) (s : Fin 3), ln m w ≤ n → ln m (w ++ [s]) = ln m w + 1 → Big (actw c w (e s)) := by
  intro n
  induction n with
  | zero =>
    intro w s hn hs
    rw [O.toGeo.eqv (ln_zero (by omega))]
    exact big_e s
  | succ n ih =>
    intro w s hn hs
    by_cases h0 : ln m w = 0
    · rw [O.toGeo.eqv (ln_zero h0)]
      exact big_e s
    · obtain ⟨t, ht⟩ := last_ex h0
      have hst : s ≠ t := fun z => by
        rw [z] at hs
        omega
      obtain ⟨v, k, hw, hl, hk, h1, h2⟩ := split_more hst (ln m (w ++ [t])) (w ++ [t]) 1 (Nat.le_refl _) (snoc_snoc w t).symm ht (Nat.le_refl _)
      have fw := few hst (O.msym s t) hs hw hl
      rw [O.toGeo.eqv hw, actw_append]
      have r := actl_reverse (c := c) (alt t s k).reverse (e s)
      rw [List.reverse_reverse] at r
      rw [← r]
      exact big_two O hst fw (ih v s (by omega) h1) (ih v t (by omega) h2)
theorem act_e (G : Geo m c) (s : Fin 3) : act c s (e s) = lc (-1) (e s) 0 (e s) := by
  have h2 := G.two s
  funext k
  unfold act bump lc
  have d : dot c s (e s) = c s s := by
    unfold dot e
    have h3 : s = 0 ∨ s = 1 ∨ s = 2 := by
      rcases s with ⟨s, hs⟩
      have : s = 0 ∨ s = 1 ∨ s = 2 := by omega
      rcases this with rfl | rfl | rfl
      · exact .inl rfl
      · exact .inr (.inl rfl)
      · exact .inr (.inr rfl)
    rcases h3 with rfl | rfl | rfl <;> simp <;> grind
  rw [d, h2]
  unfold e
  by_cases h : k = s
  · simp only [if_pos h]; grind
  · simp only [if_neg h]; grind
/-- a shrinking one's root is negative -/
theorem root_neg (O : Ord m c) (w : W) (s : Fin 3) (h : ln m w = ln m (w ++ [s]) + 1) : ∃ v : V3 R, Big v ∧ actw c w (e s) = lc (-1) v 0 v := by
  have h2 : ln m (w ++ [s] ++ [s]) = ln m (w ++ [s]) + 1 := by rw [ln_eqv (snoc_snoc w s), h]
  refine ⟨actw c (w ++ [s]) (e s), root_pos O _ (w ++ [s]) s (Nat.le_refl _) h2, ?_⟩
  rw [← actw_lc, ← act_e O.toGeo]
  have := O.toGeo.eqv (snoc_snoc w s) (e s)
  rw [← this, actw_append, actw_append, actw_append]
  rfl
end
end Cox

/-! Turns alone connect shortest words; they shorten any other. -/
namespace Cox
open Lean.Grind
variable {m : Fin 3 → Fin 3 → Nat}
/-- one turn -/
def Turn1 (m : Fin 3 → Fin 3 → Nat) (a b : W) : Prop := ∃ (u v : W) (i j : Fin 3), i ≠ j ∧ m i j ≠ 0 ∧ a = u ++ (alt i j (m i j) ++ v) ∧ b = u ++ (alt j i (m i j) ++ v)
/-- turns, one after the other -/
inductive Tn (m : Fin 3 → Fin 3 → Nat) : W → W → Prop
  | refl (u : W) : Tn m u u
  | more {u v w : W} : Turn1 m u v → Tn m v w → Tn m u w
theorem Tn.one {u v : W} (h : Turn1 m u v) : Tn m u v := .more h (.refl v)
theorem Tn.trans {u v w : W} (h : Tn m u v) (k : Tn m v w) : Tn m u w := by
  induction h with
  | refl u => exact k
  | more a _ ih => exact .more a (ih k)
theorem Turn1.app {u v : W} (h : Turn1 m u v) (x y : W) : Turn1 m (x ++ u ++ y) (x ++ v ++ y) := by
  obtain ⟨a, b, i, j, h1, h2, rfl, rfl⟩ := h
  exact ⟨x ++ a, b ++ y, i, j, h1, h2, by simp, by simp⟩
theorem Tn.app {u v : W} (h : Tn m u v) (x y : W) : Tn m (x ++ u ++ y) (x ++ v ++ y) := by
  induction h with
  | refl u => exact .refl _
  | more a _ ih => exact .more (a.app x y) ih
theorem Turn1.eqv {u v : W} (h : Turn1 m u v) : Eqv m u v := by
  obtain ⟨a, b, i, j, h1, h2, rfl, rfl⟩ := h
  exact .step (.turn a b i j h1 h2)
theorem Tn.eqv {u v : W} (h : Tn m u v) : Eqv m u v := by
  induction h with
  | refl u => exact .refl _
  | more a _ ih => exact a.eqv.trans ih
theorem Turn1.len {u v : W} (h : Turn1 m u v) : u.length = v.length := by
  obtain ⟨a, b, i, j, h1, h2, rfl, rfl⟩ := h
  simp only [List.length_append, alt_length]
theorem Tn.len {u v : W} (h : Tn m u v) : u.length = v.length := by
  induction h with
  | refl u => rfl
  | more a _ ih => rw [a.len, ih]
theorem Tn.snoc {u v : W} (h : Tn m u v) (s : Fin 3) : Tn m (u ++ [s]) (v ++ [s]) := h.app [] [s]
theorem turn_rev (ms : ∀ i j, m i j = m j i) {s t : Fin 3} (hst : s ≠ t) (h0 : m s t ≠ 0) (v : W) : Turn1 m (v ++ (alt s t (m s t)).reverse) (v ++ (alt t s (m s t)).reverse) := by
  rw [alt_reverse, alt_reverse]
  by_cases h : m s t % 2 = 0
  · rw [if_pos h, if_pos h]
    exact ⟨v, [], t, s, hst.symm, by rw [ms]; exact h0, by rw [List.append_nil, ms t s], by rw [List.append_nil, ms t s]⟩
  · rw [if_neg h, if_neg h]
    exact ⟨v, [], s, t, hst, h0, by rw [List.append_nil], by rw [List.append_nil]⟩
section
variable {R : Type} [CommRing R] [LE R] [LT R] [Std.LawfulOrderLT R] [Std.IsLinearOrder R] [OrderedRing R]
variable {c : Fin 3 → Fin 3 → R}
theorem big_not {x v : V3 R} (h : Big x) (k : Big v) (e : x = lc (-1) v 0 v) : False := by
  obtain ⟨_, a⟩ := h
  obtain ⟨_, b⟩ := k
  rw [e] at a
  have d : 1 ≤ (-1 * v 0 + 0 * v 0) + (-1 * v 1 + 0 * v 1) + (-1 * v 2 + 0 * v 2) := a
  have z : (0 : R) < 1 := by grind
  grind
/-- the length grows exactly if the root is positive -/
theorem grows (O : Ord m c) {w : W} {s : Fin 3} (h : Big (actw c w (e s))) : ln m (w ++ [s]) = ln m w + 1 := by
  rcases ln_snoc (m := m) w s with a | a
  · exact a
  · obtain ⟨v, hv, hw⟩ := root_neg O w s a
    exact (big_not h hv hw).elim
theorem longer (m : Fin 3 → Fin 3 → Nat) (ms : ∀ i j, m i j = m j i) {s t : Fin 3} (hst : s ≠ t) (h0 : m s t ≠ 0) : Eqv m (alt t s (m s t + 1)) (alt s t (m s t - 1)) := by
  obtain ⟨n, hn⟩ : ∃ n, m s t = n + 1 := ⟨m s t - 1, by omega⟩
  have tu : Eqv m (alt t s (m t s)) (alt s t (m t s)) := by
    have := Step.turn (m := m) [] [] t s hst.symm (by rw [ms]; exact h0)
    simp only [List.nil_append, List.append_nil] at this
    exact .step this
  rw [ms t s, hn] at tu
  have a := tu.right [nth t s (n + 1)]
  rw [alt_snoc s t n, nth_succ] at a
  rw [hn, alt_snoc t s (n + 1), nth_succ]
  exact a.trans (snoc_snoc _ _)
/-- two last letters: all their turns -/
theorem both (O : Ord m c) {w : W} {s t : Fin 3} (hst : s ≠ t) (hs : ln m w = ln m (w ++ [s]) + 1) (ht : ln m w = ln m (w ++ [t]) + 1) :
    m s t ≠ 0 ∧ ∃ v, Eqv m w (v ++ (alt t s (m s t)).reverse) ∧ ln m w = ln m v + m s t := by
  obtain ⟨v, k, hw, hl, hk, h1, h2⟩ := split_more hst (ln m (w ++ [t])) (w ++ [t]) 1 (Nat.le_refl _) (snoc_snoc w t).symm ht (Nat.le_refl _)
  have no : ¬ (m s t = 0 ∨ k < m s t) := fun z => by
    have b := big_two O hst z (root_pos O _ v s (Nat.le_refl _) h1) (root_pos O _ v t (Nat.le_refl _) h2)
    have r := actl_reverse (c := c) (alt t s k).reverse (e s)
    rw [List.reverse_reverse] at r
    rw [r, ← actw_append, ← O.toGeo.eqv hw] at b
    have := grows O b
    omega
  have h0 : m s t ≠ 0 := fun z => no (.inl z)
  have hm : m s t ≤ k := Nat.le_of_not_lt fun z => no (.inr z)
  have hk2 : k = m s t := by
    refine Nat.le_antisymm (Nat.le_of_not_lt fun z => ?_) hm
    obtain ⟨r, e1, e2⟩ := alt_split t s (m s t + 1) (k - (m s t + 1))
    rw [show m s t + 1 + (k - (m s t + 1)) = k by omega] at e1
    rw [e1, List.reverse_append] at hw
    have a := ((longer m O.msym hst h0).rev.left r.reverse).left v
    have b := ln_eqv (hw.trans a)
    have d := ln_append (m := m) v (r.reverse ++ (alt s t (m s t - 1)).reverse)
    have f := ln_self (m := m) (r.reverse ++ (alt s t (m s t - 1)).reverse)
    rw [List.length_append, List.length_reverse, List.length_reverse, alt_length, e2] at f
    omega
  exact ⟨h0, v, by rw [← hk2]; exact hw, by omega⟩
/-- turns alone connect the shortest words of a tile -/
theorem turns (O : Ord m c) : ∀ (n : Nat) (u w : W), u.length = n → Red m u → Red m w → Eqv m u w → Tn m u w := by
  intro n
  induction n with
  | zero =>
    intro u w hu ru rw_ huw
    have hu0 : u = [] := List.eq_nil_of_length_eq_zero hu
    have hw0 : w = [] := by
      refine List.eq_nil_of_length_eq_zero ?_
      rw [← rw_, ← ln_eqv huw, ru, hu]
    rw [hu0, hw0]
    exact .refl _
  | succ n ih =>
    intro u w hu ru rw_ huw
    have hwl : w.length = n + 1 := by rw [← rw_, ← ln_eqv huw, ru, hu]
    -- words of this tile with the same last letter
    have same : ∀ (x y : W) (s : Fin 3), x.length = n → Red m (x ++ [s]) → Red m (y ++ [s]) → Eqv m (x ++ [s]) (y ++ [s]) → Tn m (x ++ [s]) (y ++ [s]) := fun x y s hx rx ry h =>
      (ih x y hx rx.part.1 ry.part.1 h.cancel_right).snoc s
    rcases List.eq_nil_or_concat u with rfl | ⟨x, s, rfl⟩
    · simp at hu
    rcases List.eq_nil_or_concat w with rfl | ⟨y, t, rfl⟩
    · simp at hwl
    simp only [List.concat_eq_append] at *
    have hx : x.length = n := by simpa using hu
    have hy : y.length = n := by simpa using hwl
    by_cases hst : s = t
    · subst hst
      exact same x y s hx ru rw_ huw
    · have lu : ln m (x ++ [s]) = n + 1 := by rw [ru, hu]
      have d1 : ln m (x ++ [s]) = ln m (x ++ [s] ++ [s]) + 1 := by
        rw [ln_eqv (snoc_snoc x s), lu, ru.part.1, hx]
      have d2 : ln m (x ++ [s]) = ln m (x ++ [s] ++ [t]) + 1 := by
        rw [ln_eqv ((huw.right [t]).trans (snoc_snoc y t)), lu, rw_.part.1, hy]
      obtain ⟨h0, v0, hv, hl⟩ := both O hst d1 d2
      obtain ⟨v, hv1, hv2⟩ := red_ex (m := m) v0
      have hB : Eqv m (x ++ [s]) (v ++ (alt t s (m s t)).reverse) := hv.trans (hv1.right _)
      have tA := turn_rev O.msym hst h0 v
      have hA : Eqv m (x ++ [s]) (v ++ (alt s t (m s t)).reverse) := hB.trans tA.eqv.symm
      have lv : v.length + m s t = n + 1 := by rw [← hv2, ← ln_eqv hv1]; omega
      obtain ⟨k, hk⟩ : ∃ k, m s t = k + 1 := ⟨m s t - 1, by omega⟩
      have rA : Red m (v ++ (alt s t (m s t)).reverse) := by
        unfold Red
        rw [← ln_eqv hA, lu, List.length_append, List.length_reverse, alt_length, lv]
      have rB : Red m (v ++ (alt t s (m s t)).reverse) := by
        unfold Red
        rw [← ln_eqv hB, lu, List.length_append, List.length_reverse, alt_length, lv]
      have eA : v ++ (alt s t (m s t)).reverse = (v ++ (alt t s k).reverse) ++ [s] := by
        rw [hk, alt, List.reverse_cons, List.append_assoc]
      have eB : v ++ (alt t s (m s t)).reverse = (v ++ (alt s t k).reverse) ++ [t] := by
        rw [hk, alt, List.reverse_cons, List.append_assoc]
      have t1 : Tn m (x ++ [s]) (v ++ (alt s t (m s t)).reverse) := by
        rw [eA] at hA rA ⊢
        exact same x _ s hx ru rA hA
      have t3 : Tn m (v ++ (alt t s (m s t)).reverse) (y ++ [t]) := by
        have hBw := hB.symm.trans huw
        rw [eB] at rB hBw ⊢
        refine same _ y t ?_ rB rw_ hBw
        rw [List.length_append, List.length_reverse, alt_length]
        omega
      exact t1.trans ((Tn.one tA).trans t3)
/-- turns lead from a word that is not shortest to one with two equal letters next to each other -/
theorem shorten (O : Ord m c) (w : W) (h : ¬ Red m w) : ∃ (u v : W) (s : Fin 3), Tn m w (u ++ ([s, s] ++ v)) := by
  have key : ∀ (y x : W), Red m x → ¬ Red m (x ++ y) → ∃ (u v : W) (s : Fin 3), Tn m (x ++ y) (u ++ ([s, s] ++ v)) := by
    intro y
    induction y with
    | nil =>
      intro x hx h
      rw [List.append_nil] at h
      exact absurd hx h
    | cons s y ih =>
      intro x hx h
      have e : x ++ s :: y = (x ++ [s]) ++ y := by simp
      by_cases c1 : Red m (x ++ [s])
      · rw [e] at h ⊢
        exact ih (x ++ [s]) c1 h
      · have lt : ln m x = ln m (x ++ [s]) + 1 := by
          rcases ln_snoc (m := m) x s with a | a
          · exact absurd ((red_snoc hx).mpr a) c1
          · exact a
        obtain ⟨z, hz1, hz2⟩ := red_ex (m := m) (x ++ [s])
        have hxz : Eqv m x (z ++ [s]) := (snoc_snoc x s).symm.trans (hz1.right [s])
        have rz : Red m (z ++ [s]) := by
          unfold Red
          rw [← ln_eqv hxz, lt, ln_eqv hz1, hz2, List.length_append]
          rfl
        have t := (turns O _ x (z ++ [s]) rfl hx rz hxz).app [] (s :: y)
        exact ⟨z, y, s, by simpa using t⟩
  exact key w [] (by unfold Red; exact Nat.le_zero.mp (ln_self [])) h
end
end Cox

/-! Real numbers: rational sequences whose members settle as fast as halves. -/
namespace Cox
open Lean.Grind
def h : Nat → Rat
  | 0 => 1
  | i + 1 => h i / 2
theorem h_succ (i : Nat) : h i = h (i + 1) + h (i + 1) := by
  show h i = h i / 2 + h i / 2
  grind
theorem h_pos : ∀ i, 0 < h i
  | 0 => by show (0 : Rat) < 1; decide
  | i + 1 => by
    have a := h_pos i
    have b := h_succ i
    grind
theorem mul_bd {a b B D : Rat} (h1 : -B ≤ a) (h2 : a ≤ B) (h3 : -D ≤ b) (h4 : b ≤ D) : a * b ≤ B * D := by
  have x := Rat.mul_nonneg (show 0 ≤ B - a by grind) (show 0 ≤ D + b by grind)
  have y := Rat.mul_nonneg (show 0 ≤ B + a by grind) (show 0 ≤ D - b by grind)
  grind
structure Sq where
  f : Nat → Rat
  ok : ∃ C, ∀ i j, i ≤ j → f i - f j ≤ C * h i ∧ f j - f i ≤ C * h i
theorem nn_of {C x : Rat} (hx : 0 < x) (h1 : 0 ≤ C * x) : 0 ≤ C := by
  by_cases c : 0 ≤ C
  · exact c
  · have := Rat.mul_pos (show 0 < -C by grind) hx
    grind
theorem Sq.rate (a : Sq) : ∃ C, 0 ≤ C ∧ ∀ i j, i ≤ j → a.f i - a.f j ≤ C * h i ∧ a.f j - a.f i ≤ C * h i := by
  obtain ⟨C, hC⟩ := a.ok
  refine ⟨C, nn_of (h_pos 0) ?_, hC⟩
  have := (hC 0 0 (Nat.le_refl 0)).1
  grind
theorem Sq.bound (a : Sq) : ∃ B, 0 ≤ B ∧ ∀ i, -B ≤ a.f i ∧ a.f i ≤ B := by
  obtain ⟨C, h0, hC⟩ := a.rate
  refine ⟨(if 0 ≤ a.f 0 then a.f 0 else -a.f 0) + C, by split <;> grind, fun i => ?_⟩
  have := hC 0 i (Nat.zero_le i)
  have e : h 0 = 1 := rfl
  rw [e] at this
  split <;> grind
def same (a b : Sq) : Prop := ∃ C, ∀ i, a.f i - b.f i ≤ C * h i ∧ b.f i - a.f i ≤ C * h i
instance sqSet : Setoid Sq where
  r := same
  iseqv := {
    refl := fun a => ⟨0, fun i => by grind⟩
    symm := fun ⟨C, hC⟩ => ⟨C, fun i => ⟨(hC i).2, (hC i).1⟩⟩
    trans := fun ⟨C, hC⟩ ⟨D, hD⟩ => ⟨C + D, fun i => by
      have a := hC i
      have b := hD i
      grind⟩ }
def cst (q : Rat) : Sq := ⟨fun _ => q, 0, fun i j _ => by grind⟩
def Sq.add (a b : Sq) : Sq := ⟨fun i => a.f i + b.f i, by
  obtain ⟨C, hC⟩ := a.ok
  obtain ⟨D, hD⟩ := b.ok
  refine ⟨C + D, fun i j hij => ?_⟩
  have x := hC i j hij
  have y := hD i j hij
  grind⟩
def Sq.neg (a : Sq) : Sq := ⟨fun i => -a.f i, by
  obtain ⟨C, hC⟩ := a.ok
  refine ⟨C, fun i j hij => ?_⟩
  have x := hC i j hij
  grind⟩
theorem mul_step {x x' y y' B D C E t : Rat} (a1 : -B ≤ x ∧ x ≤ B) (a2 : -D ≤ y' ∧ y' ≤ D) (a3 : x - x' ≤ C * t ∧ x' - x ≤ C * t) (a4 : y - y' ≤ E * t ∧ y' - y ≤ E * t) : x * y - x' * y' ≤ (B * E + D * C) * t := by
  have p := mul_bd a1.1 a1.2 (show -(E * t) ≤ y - y' by grind) a4.1
  have q := mul_bd a2.1 a2.2 (show -(C * t) ≤ x - x' by grind) a3.1
  grind
def Sq.mul (a b : Sq) : Sq := ⟨fun i => a.f i * b.f i, by
  obtain ⟨C, hC⟩ := a.ok
  obtain ⟨D, hD⟩ := b.ok
  obtain ⟨B, _, hB⟩ := a.bound
  obtain ⟨E, _, hE⟩ := b.bound
  refine ⟨B * D + E * C, fun i j hij => ⟨?_, ?_⟩⟩
  · exact mul_step (hB i) (hE j) (hC i j hij) (hD i j hij)
  · have := mul_step (hB j) (hE i) (And.intro (hC i j hij).2 (hC i j hij).1) (And.intro (hD i j hij).2 (hD i j hij).1)
    exact this⟩
def Re := Quotient sqSet
def Re.of (a : Sq) : Re := Quotient.mk sqSet a
theorem Re.ex (x : Re) : ∃ a, x = Re.of a := by
  obtain ⟨a, h⟩ := Quotient.exists_rep x
  exact ⟨a, h.symm⟩
theorem Re.eq {a b : Sq} (h : ∀ i, a.f i = b.f i) : Re.of a = Re.of b := Quotient.sound ⟨0, fun i => by rw [h]; grind⟩
def Re.add : Re → Re → Re := Quotient.lift₂ (fun a b => Re.of (a.add b)) (fun a b a' b' ⟨C, hC⟩ ⟨D, hD⟩ => Quotient.sound ⟨C + D, fun i => by
  have x := hC i
  have y := hD i
  show (a.f i + b.f i) - (a'.f i + b'.f i) ≤ _ ∧ (a'.f i + b'.f i) - (a.f i + b.f i) ≤ _
  grind⟩)
def Re.neg : Re → Re := Quotient.lift (fun a => Re.of a.neg) (fun a a' ⟨C, hC⟩ => Quotient.sound ⟨C, fun i => by
  have x := hC i
  show (-a.f i) - (-a'.f i) ≤ _ ∧ (-a'.f i) - (-a.f i) ≤ _
  grind⟩)
def Re.mul : Re → Re → Re := Quotient.lift₂ (fun a b => Re.of (a.mul b)) (fun a b a' b' ⟨C, hC⟩ ⟨D, hD⟩ => Quotient.sound (by
  obtain ⟨B, _, hB⟩ := a.bound
  obtain ⟨E, _, hE⟩ := b'.bound
  obtain ⟨B', _, hB'⟩ := a'.bound
  obtain ⟨E', _, hE'⟩ := b.bound
  refine ⟨(B * D + E * C) + (B' * D + E' * C), fun i => ?_⟩
  have p := mul_step (hB i) (hE i) (hC i) (hD i)
  have q := mul_step (hB' i) (hE' i) (And.intro (hC i).2 (hC i).1) (And.intro (hD i).2 (hD i).1)
  have z1 : 0 ≤ (B * D + E * C) * h i := by
    have u := hC i
    have v := hD i
    have c0 : 0 ≤ C := nn_of (h_pos i) (by grind)
    have d0 : 0 ≤ D := nn_of (h_pos i) (by grind)
    exact Rat.mul_nonneg (by have := Rat.mul_nonneg ‹0 ≤ B› d0; have := Rat.mul_nonneg ‹0 ≤ E› c0; grind) (by have := h_pos i; grind)
  have z2 : 0 ≤ (B' * D + E' * C) * h i := by
    have u := hC i
    have v := hD i
    have c0 : 0 ≤ C := nn_of (h_pos i) (by grind)
    have d0 : 0 ≤ D := nn_of (h_pos i) (by grind)
    exact Rat.mul_nonneg (by have := Rat.mul_nonneg ‹0 ≤ B'› d0; have := Rat.mul_nonneg ‹0 ≤ E'› c0; grind) (by have := h_pos i; grind)
  show a.f i * b.f i - a'.f i * b'.f i ≤ _ ∧ a'.f i * b'.f i - a.f i * b.f i ≤ _
  grind))
instance : Add Re := ⟨Re.add⟩
instance : Mul Re := ⟨Re.mul⟩
instance : Neg Re := ⟨Re.neg⟩
instance : Sub Re := ⟨fun a b => a + -b⟩
instance : NatCast Re := ⟨fun n => Re.of (cst n)⟩
instance : IntCast Re := ⟨fun n => Re.of (cst n)⟩
instance (n : Nat) : OfNat Re n := ⟨Re.of (cst n)⟩
instance : SMul Nat Re := ⟨fun n a => (n : Re) * a⟩
instance : SMul Int Re := ⟨fun n a => (n : Re) * a⟩
def Re.pow (a : Re) : Nat → Re
  | 0 => 1
  | n + 1 => Re.pow a n * a
instance : HPow Re Nat Re := ⟨Re.pow⟩
instance : CommRing Re where
  add_zero a := by
    obtain ⟨x, rfl⟩ := a.ex
    exact Re.eq fun i => by show x.f i + ((0 : Nat) : Rat) = x.f i; grind
  add_comm a b := by
    obtain ⟨x, rfl⟩ := a.ex
    obtain ⟨y, rfl⟩ := b.ex
    exact Re.eq fun i => by show x.f i + y.f i = y.f i + x.f i; grind
  add_assoc a b c := by
    obtain ⟨x, rfl⟩ := a.ex
    obtain ⟨y, rfl⟩ := b.ex
    obtain ⟨z, rfl⟩ := c.ex
    exact Re.eq fun i => by show x.f i + y.f i + z.f i = x.f i + (y.f i + z.f i); grind
  mul_assoc a b c := by
    obtain ⟨x, rfl⟩ := a.ex
    obtain ⟨y, rfl⟩ := b.ex
    obtain ⟨z, rfl⟩ := c.ex
    exact Re.eq fun i => by show x.f i * y.f i * z.f i = x.f i * (y.f i * z.f i); grind
  mul_one a := by
    obtain ⟨x, rfl⟩ := a.ex
    exact Re.eq fun i => by show x.f i * ((1 : Nat) : Rat) = x.f i; grind
  one_mul a := by
    obtain ⟨x, rfl⟩ := a.ex
    exact Re.eq fun i => by show ((1 : Nat) : Rat) * x.f i = x.f i; grind
  left_distrib a b c := by
    obtain ⟨x, rfl⟩ := a.ex
    obtain ⟨y, rfl⟩ := b.ex
    obtain ⟨z, rfl⟩ := c.ex
    exact Re.eq fun i => by show x.f i * (y.f i + z.f i) = x.f i * y.f i + x.f i * z.f i; grind
  right_distrib a b c := by
    obtain ⟨x, rfl⟩ := a.ex
    obtain ⟨y, rfl⟩ := b.ex
    obtain ⟨z, rfl⟩ := c.ex
    exact Re.eq fun i => by show (x.f i + y.f i) * z.f i = x.f i * z.f i + y.f i * z.f i; grind
  zero_mul a := by
    obtain ⟨x, rfl⟩ := a.ex
    exact Re.eq fun i => by show ((0 : Nat) : Rat) * x.f i = ((0 : Nat) : Rat); grind
  mul_zero a := by
    obtain ⟨x, rfl⟩ := a.ex
    exact Re.eq fun i => by show x.f i * ((0 : Nat) : Rat) = ((0 : Nat) : Rat); grind
  mul_comm a b := by
    obtain ⟨x, rfl⟩ := a.ex
    obtain ⟨y, rfl⟩ := b.ex
    exact Re.eq fun i => by show x.f i * y.f i = y.f i * x.f i; grind
  pow_zero _ := rfl
  pow_succ _ _ := rfl
  ofNat_succ n := Re.eq fun i => by show ((n + 1 : Nat) : Rat) = ((n : Nat) : Rat) + ((1 : Nat) : Rat); grind
  ofNat_eq_natCast _ := rfl
  nsmul_eq_natCast_mul _ _ := rfl
  neg_add_cancel a := by
    obtain ⟨x, rfl⟩ := a.ex
    exact Re.eq fun i => by show -x.f i + x.f i = ((0 : Nat) : Rat); grind
  sub_eq_add_neg _ _ := rfl
  neg_zsmul n a := by
    obtain ⟨x, rfl⟩ := a.ex
    exact Re.eq fun i => by show ((-n : Int) : Rat) * x.f i = -(((n : Int) : Rat) * x.f i); grind
  zsmul_natCast_eq_nsmul n a := by
    obtain ⟨x, rfl⟩ := a.ex
    exact Re.eq fun i => by exact congrArg (fun z : Rat => z * x.f i) (Rat.intCast_natCast n)
  intCast_ofNat n := Re.eq fun i => by exact Rat.intCast_natCast n
  intCast_neg n := Re.eq fun i => by show ((-n : Int) : Rat) = -((n : Int) : Rat); grind
/-! the order -/
def Sq.le (a b : Sq) : Prop := ∃ C, ∀ i, a.f i - b.f i ≤ C * h i
theorem same_symm {a b : Sq} (e : same a b) : same b a := by
  obtain ⟨C, hC⟩ := e
  exact ⟨C, fun i => ⟨(hC i).2, (hC i).1⟩⟩
theorem Sq.le_congr {a b a' b' : Sq} (e1 : same a a') (e2 : same b b') (l : a.le b) : a'.le b' := by
  obtain ⟨C, hC⟩ := e1
  obtain ⟨D, hD⟩ := e2
  obtain ⟨E, hE⟩ := l
  refine ⟨C + D + E, fun i => ?_⟩
  have x := hC i
  have y := hD i
  have z := hE i
  grind
def Re.le : Re → Re → Prop := Quotient.lift₂ Sq.le (fun a b a' b' e1 e2 => propext ⟨Sq.le_congr e1 e2, Sq.le_congr (same_symm e1) (same_symm e2)⟩)
instance : LE Re := ⟨Re.le⟩
instance : LT Re := ⟨fun a b => a ≤ b ∧ ¬ b ≤ a⟩
theorem Re.le_iff {a b : Sq} : Re.of a ≤ Re.of b ↔ a.le b := Iff.rfl
theorem Sq.total (a b : Sq) : a.le b ∨ b.le a := by
  obtain ⟨C, c0, hC⟩ := (a.add b.neg).rate
  by_cases c : a.le b
  · exact .inl c
  · refine .inr ⟨C, fun j => ?_⟩
    have n : ∃ i, ¬ a.f i - b.f i ≤ C * h i := Classical.byContradiction fun z => c ⟨C, fun i => Classical.byContradiction fun y => z ⟨i, y⟩⟩
    obtain ⟨i, hi⟩ := n
    have pj := h_pos j
    have cj := Rat.mul_nonneg c0 (show 0 ≤ h j by grind)
    rcases Nat.le_total i j with ij | ij
    · have x := hC i j ij
      have x1 : (a.f i + -b.f i) - (a.f j + -b.f j) ≤ C * h i := x.1
      grind
    · have x := hC j i ij
      have x2 : (a.f i + -b.f i) - (a.f j + -b.f j) ≤ C * h j := x.2
      have pi := h_pos i
      have ci := Rat.mul_nonneg c0 (show 0 ≤ h i by grind)
      grind
instance : Std.IsLinearOrder Re where
  le_refl a := by
    obtain ⟨x, rfl⟩ := a.ex
    exact ⟨0, fun i => by grind⟩
  le_trans a b c := by
    obtain ⟨x, rfl⟩ := a.ex
    obtain ⟨y, rfl⟩ := b.ex
    obtain ⟨z, rfl⟩ := c.ex
    rintro ⟨C, hC⟩ ⟨D, hD⟩
    exact ⟨C + D, fun i => by have p := hC i; have q := hD i; grind⟩
  le_antisymm a b := by
    obtain ⟨x, rfl⟩ := a.ex
    obtain ⟨y, rfl⟩ := b.ex
    rintro ⟨C, hC⟩ ⟨D, hD⟩
    have c0 : 0 ≤ C + D := nn_of (h_pos 0) (by have p := hC 0; have q := hD 0; grind)
    refine Quotient.sound ⟨(if 0 ≤ C then C else 0) + (if 0 ≤ D then D else 0), fun i => ?_⟩
    have p := hC i
    have q := hD i
    have pi := h_pos i
    have k1 : C * h i ≤ (if 0 ≤ C then C else 0) * h i := by
      split
      · exact Rat.le_refl
      · have := Rat.mul_nonneg (show 0 ≤ -C by grind) (show 0 ≤ h i by grind)
        grind
    have k2 : D * h i ≤ (if 0 ≤ D then D else 0) * h i := by
      split
      · exact Rat.le_refl
      · have := Rat.mul_nonneg (show 0 ≤ -D by grind) (show 0 ≤ h i by grind)
        grind
    have k3 : 0 ≤ (if 0 ≤ C then C else 0) * h i := Rat.mul_nonneg (by split <;> grind) (by grind)
    have k4 : 0 ≤ (if 0 ≤ D then D else 0) * h i := Rat.mul_nonneg (by split <;> grind) (by grind)
    grind
  le_total a b := by
    obtain ⟨x, rfl⟩ := a.ex
    obtain ⟨y, rfl⟩ := b.ex
    exact x.total y
instance : Std.LawfulOrderLT Re where
  lt_iff _ _ := Iff.rfl
/-- halves get as small as one likes -/
theorem h_le : ∀ i : Nat, ((i : Rat) + 1) * h i ≤ 1
  | 0 => by show (((0 : Nat) : Rat) + 1) * 1 ≤ 1; grind
  | i + 1 => by
    have a := h_le i
    have b := h_succ i
    have p := h_pos (i + 1)
    have n : (0 : Rat) ≤ (i : Rat) := by grind
    have m := Rat.mul_nonneg n (show 0 ≤ h (i + 1) by grind)
    rw [b] at a
    have e : (((i + 1 : Nat) : Rat) + 1) * h (i + 1) = (i : Rat) * h (i + 1) + (h (i + 1) + h (i + 1)) := by grind
    rw [e]
    grind
theorem nat_above (q : Rat) : ∃ n : Nat, q ≤ (n : Rat) := by
  refine ⟨q.ceil.toNat, ?_⟩
  have a := Rat.le_ceil (x := q)
  have b : q.ceil ≤ (q.ceil.toNat : Int) := Int.self_le_toNat _
  have c : ((q.ceil : Int) : Rat) ≤ (((q.ceil.toNat : Nat) : Int) : Rat) := Rat.intCast_le_intCast.mpr b
  rw [Rat.intCast_natCast] at c
  exact Rat.le_trans a c
theorem h_small (q : Rat) (hq : 0 < q) (C : Rat) : ∃ i, C * h i < q := by
  obtain ⟨n, hn⟩ := nat_above (C / q)
  refine ⟨n, ?_⟩
  have e : C = (C / q) * q := by
    rw [Rat.div_mul_cancel]
    grind
  have p := h_pos n
  have l := h_le n
  have k := Rat.mul_nonneg (show 0 ≤ (n : Rat) - C / q by grind) (show 0 ≤ q by grind)
  have k1 : C ≤ (n : Rat) * q := by grind
  have k2 := Rat.mul_nonneg (show 0 ≤ (n : Rat) * q - C by grind) (show 0 ≤ h n by grind)
  have k3 := Rat.mul_nonneg (show 0 ≤ 1 - ((n : Rat) + 1) * h n by grind) (show 0 ≤ q by grind)
  have k4 := Rat.mul_pos hq p
  grind
/-- positive: from some member on at least some number -/
theorem Sq.pos_of {a : Sq} (hn : ¬ a.le (cst 0)) : ∃ (q : Rat) (i : Nat), 0 < q ∧ ∀ j, i ≤ j → q ≤ a.f j := by
  obtain ⟨C, c0, hC⟩ := a.rate
  have n : ∃ i, ¬ a.f i - 0 ≤ C * h i := Classical.byContradiction fun z => hn ⟨C, fun i => Classical.byContradiction fun y => z ⟨i, y⟩⟩
  obtain ⟨i, hi⟩ := n
  exact ⟨a.f i - C * h i, i, by grind, fun j hj => by have := (hC i j hj).1; grind⟩
theorem Sq.not_le_zero {a : Sq} {q : Rat} {i : Nat} (hq : 0 < q) (h1 : ∀ j, i ≤ j → q ≤ a.f j) : ¬ a.le (cst 0) := by
  rintro ⟨C, hC⟩
  obtain ⟨k, hk⟩ := h_small q hq C
  have c0 : 0 ≤ C := by
    have a1 := hC i
    have a2 := h1 i (Nat.le_refl i)
    have a3 : a.f i - 0 ≤ C * h i := a1
    exact nn_of (h_pos i) (by grind)
  have anti : ∀ d : Nat, h (k + d) ≤ h k := fun d => by
    induction d with
    | zero => exact Rat.le_refl
    | succ d ih =>
      have b := h_succ (k + d)
      have p := h_pos (k + d + 1)
      show h (k + d + 1) ≤ h k
      grind
  have a1 : a.f (k + i) - 0 ≤ C * h (k + i) := hC (k + i)
  have a2 := h1 (k + i) (Nat.le_add_left i k)
  have a3 := Rat.mul_nonneg c0 (show 0 ≤ h k - h (k + i) by have := anti i; grind)
  grind
theorem Re.sub_pos {a b : Re} (l : a < b) : ∃ x : Sq, b + -a = Re.of x ∧ ¬ x.le (cst 0) := by
  obtain ⟨x, rfl⟩ := a.ex
  obtain ⟨y, rfl⟩ := b.ex
  refine ⟨y.add x.neg, rfl, fun z => l.2 ?_⟩
  obtain ⟨C, hC⟩ := z
  refine ⟨C, fun i => ?_⟩
  have : (y.f i + -x.f i) - 0 ≤ C * h i := hC i
  grind
theorem Re.lt_of {a b : Re} {x : Sq} (e : b + -a = Re.of x) (hx : ¬ x.le (cst 0)) : a < b := by
  have n : ¬ b ≤ a := fun z => hx (by
    have : b + -a ≤ Re.of (cst 0) := by
      obtain ⟨u, rfl⟩ := a.ex
      obtain ⟨v, rfl⟩ := b.ex
      obtain ⟨C, hC⟩ := z
      refine ⟨C, fun i => ?_⟩
      have := hC i
      show (v.f i + -u.f i) - 0 ≤ C * h i
      grind
    rw [e] at this
    exact this)
  exact ⟨(Std.IsLinearPreorder.le_total a b).resolve_right n, n⟩
theorem Re.mul_pos {x y : Sq} (hx : ¬ x.le (cst 0)) (hy : ¬ y.le (cst 0)) : ¬ (x.mul y).le (cst 0) := by
  obtain ⟨p, i, hp, h1⟩ := Sq.pos_of hx
  obtain ⟨q, j, hq, h2⟩ := Sq.pos_of hy
  refine Sq.not_le_zero (q := p * q) (i := i + j) (Rat.mul_pos hp hq) fun k hk => ?_
  have a := h1 k (by omega)
  have b := h2 k (by omega)
  have c := Rat.mul_nonneg (show 0 ≤ x.f k - p by grind) (show 0 ≤ q by grind)
  have d := Rat.mul_nonneg (show 0 ≤ x.f k by grind) (show 0 ≤ y.f k - q by grind)
  show p * q ≤ x.f k * y.f k
  grind
instance : OrderedRing Re where
  add_le_left_iff {a b} c := by
    obtain ⟨x, rfl⟩ := a.ex
    obtain ⟨y, rfl⟩ := b.ex
    obtain ⟨z, rfl⟩ := c.ex
    constructor
    · rintro ⟨C, hC⟩
      refine ⟨C, fun i => ?_⟩
      have := hC i
      show (x.f i + z.f i) - (y.f i + z.f i) ≤ _
      grind
    · rintro ⟨C, hC⟩
      refine ⟨C, fun i => ?_⟩
      have : (x.f i + z.f i) - (y.f i + z.f i) ≤ C * h i := hC i
      grind
  zero_lt_one := Re.lt_of (x := (cst 1).add (cst 0).neg) rfl (Sq.not_le_zero (q := 1) (i := 0) (by decide) fun j _ => by show (1 : Rat) ≤ 1 + -0; grind)
  mul_lt_mul_of_pos_left {a b c} l1 l2 := by
    obtain ⟨x, e1, h1⟩ := Re.sub_pos l1
    obtain ⟨y, e2, h2⟩ := Re.sub_pos l2
    refine Re.lt_of (x := y.mul x) ?_ (Re.mul_pos h2 h1)
    show _ = Re.of y * Re.of x
    rw [← e1, ← e2]
    grind
  mul_lt_mul_of_pos_right {a b c} l1 l2 := by
    obtain ⟨x, e1, h1⟩ := Re.sub_pos l1
    obtain ⟨y, e2, h2⟩ := Re.sub_pos l2
    refine Re.lt_of (x := x.mul y) ?_ (Re.mul_pos h1 h2)
    show _ = Re.of x * Re.of y
    rw [← e1, ← e2]
    grind
end Cox

/-! The numbers of the orders: 2 cos (pi / m), by halving intervals. -/
namespace Cox
open Lean.Grind
def Useq (a : Sq) : Nat → Sq
  | 0 => cst 1
  | 1 => a
  | k + 2 => (a.mul (Useq a (k + 1))).add (Useq a k).neg
theorem useq_f (a : Sq) (i : Nat) : ∀ k, (Useq a k).f i = U (a.f i) k
  | 0 => rfl
  | 1 => rfl
  | k + 2 => by
    show a.f i * (Useq a (k + 1)).f i + -(Useq a k).f i = a.f i * U (a.f i) (k + 1) - U (a.f i) k
    rw [useq_f a i (k + 1), useq_f a i k]
    grind
theorem useq_of (a : Sq) : ∀ k, U (Re.of a) k = Re.of (Useq a k)
  | 0 => rfl
  | 1 => rfl
  | k + 2 => by
    show Re.of a * U (Re.of a) (k + 1) - U (Re.of a) k = Re.of a * Re.of (Useq a (k + 1)) + -(Re.of (Useq a k))
    rw [useq_of a (k + 1), useq_of a k]
    grind
theorem of_nonneg {a : Sq} (hp : ∀ i, 0 ≤ a.f i) : 0 ≤ Re.of a := ⟨0, fun i => by
  have := hp i
  show 0 - a.f i ≤ 0 * h i
  grind⟩
theorem of_nonpos {a : Sq} (hp : ∀ i, a.f i ≤ 0) : Re.of a ≤ 0 := ⟨0, fun i => by
  have := hp i
  show a.f i - 0 ≤ 0 * h i
  grind⟩
/-! halving -/
structure Half (P : Rat → Rat) (lo hi : Rat) (w : Rat) : Prop where
  l : P lo ≤ 0
  r : 0 ≤ P hi
  d : hi = lo + w
def mid (P : Rat → Rat) (x w : Rat) : Rat := if P (x + w / 2) ≤ 0 then x + w / 2 else x
def bis (P : Rat → Rat) (lo w : Rat) : Nat → Rat
  | 0 => lo
  | i + 1 => mid P (bis P lo w i) (w * h i)
theorem bis_half {P : Rat → Rat} {lo w : Rat} (h1 : P lo ≤ 0) (h2 : 0 ≤ P (lo + w)) : ∀ i, P (bis P lo w i) ≤ 0 ∧ 0 ≤ P (bis P lo w i + w * h i)
  | 0 => ⟨h1, by show 0 ≤ P (lo + w * 1); rw [show w * 1 = w by grind]; exact h2⟩
  | i + 1 => by
    have ih := bis_half h1 h2 i
    have e : w * h (i + 1) = w * h i / 2 := by
      show w * (h i / 2) = _
      grind
    show P (mid P (bis P lo w i) (w * h i)) ≤ 0 ∧ 0 ≤ P (mid P (bis P lo w i) (w * h i) + w * h (i + 1))
    unfold mid
    rw [e]
    by_cases c : P (bis P lo w i + w * h i / 2) ≤ 0
    · rw [if_pos c]
      refine ⟨c, ?_⟩
      rw [show bis P lo w i + w * h i / 2 + w * h i / 2 = bis P lo w i + w * h i by grind]
      exact ih.2
    · rw [if_neg c]
      exact ⟨ih.1, by grind⟩
theorem bis_step {P : Rat → Rat} {lo w : Rat} (hw : 0 ≤ w) (i : Nat) : ∀ d, bis P lo w i ≤ bis P lo w (i + d) ∧ bis P lo w (i + d) + w * h (i + d) ≤ bis P lo w i + w * h i
  | 0 => ⟨Rat.le_refl, Rat.le_refl⟩
  | d + 1 => by
    have ih := bis_step hw i d (P := P) (lo := lo)
    have p := h_pos (i + d + 1)
    have e := h_succ (i + d)
    have z := Rat.mul_nonneg hw (show 0 ≤ h (i + d + 1) by grind)
    show bis P lo w i ≤ mid P (bis P lo w (i + d)) (w * h (i + d)) ∧ mid P (bis P lo w (i + d)) (w * h (i + d)) + w * h (i + d + 1) ≤ _
    unfold mid
    have e2 : w * h (i + d) / 2 = w * h (i + d + 1) := by
      rw [e]
      grind
    have e3 : w * h (i + d) = w * h (i + d + 1) + w * h (i + d + 1) := by rw [e]; grind
    rw [e2]
    split <;> grind
def bisq (P : Rat → Rat) (lo w : Rat) (hw : 0 ≤ w) : Sq := ⟨bis P lo w, w, fun i j hij => by
  obtain ⟨d, rfl⟩ : ∃ d, j = i + d := ⟨j - i, by omega⟩
  have a := bis_step hw i d (P := P) (lo := lo)
  have p := h_pos (i + d)
  have q := h_pos i
  have z := Rat.mul_nonneg hw (show 0 ≤ h (i + d) by grind)
  have y := Rat.mul_nonneg hw (show 0 ≤ h i by grind)
  grind⟩
theorem bis_in {P : Rat → Rat} {lo w : Rat} (hw : 0 ≤ w) (i : Nat) : lo ≤ bis P lo w i ∧ bis P lo w i ≤ lo + w := by
  have a := bis_step hw 0 i (P := P) (lo := lo)
  rw [Nat.zero_add] at a
  have p := h_pos i
  have z := Rat.mul_nonneg hw (show 0 ≤ h i by grind)
  have e : bis P lo w 0 = lo := rfl
  have e2 : h 0 = 1 := rfl
  rw [e, e2] at a
  grind
/-- where the sign of U n changes, it is 0 -/
theorem root_ex (n : Nat) (lo w : Rat) (hw : 0 ≤ w) (h1 : U lo n ≤ 0) (h2 : 0 ≤ U (lo + w) n) : ∃ a : Sq, (∀ i, lo ≤ a.f i ∧ a.f i ≤ lo + w) ∧ U (Re.of a) n = 0 := by
  refine ⟨bisq (fun x => U x n) lo w hw, bis_in hw, ?_⟩
  have b := bis_half (P := fun x => U x n) h1 h2
  have up : Re.of (bisq (fun x => U x n) lo w hw) = Re.of ((bisq (fun x => U x n) lo w hw).add ⟨fun i => w * h i, w, fun i j hij => by
      obtain ⟨d, rfl⟩ : ∃ d, j = i + d := ⟨j - i, by omega⟩
      have a := bis_step hw i d (P := fun _ => (0 : Rat)) (lo := 0)
      have anti : ∀ d : Nat, h (i + d) ≤ h i := fun d => by
        induction d with
        | zero => exact Rat.le_refl
        | succ d ih =>
          have b := h_succ (i + d)
          have p := h_pos (i + d + 1)
          show h (i + d + 1) ≤ h i
          grind
      have p := h_pos (i + d)
      have x := Rat.mul_nonneg hw (show 0 ≤ h i - h (i + d) by have := anti d; grind)
      have y := Rat.mul_nonneg hw (show 0 ≤ h (i + d) by grind)
      grind⟩) := Quotient.sound ⟨w, fun i => by
    have p := h_pos i
    have y := Rat.mul_nonneg hw (show 0 ≤ h i by grind)
    show bis _ lo w i - (bis _ lo w i + w * h i) ≤ w * h i ∧ (bis _ lo w i + w * h i) - bis _ lo w i ≤ w * h i
    grind⟩
  refine Std.IsPartialOrder.le_antisymm _ _ ?_ ?_
  · rw [useq_of]
    exact of_nonpos fun i => by rw [useq_f]; exact (b i).1
  · rw [up, useq_of]
    exact of_nonneg fun i => by rw [useq_f]; exact (b i).2
end Cox

/-! For each order the number that it stands for, with its signs; the numbers of three orders. -/
namespace Cox
open Lean.Grind
/-- bounds of U over an interval -/
def IU (lo hi : Rat) : Nat → Rat × Rat
  | 0 => (1, 1)
  | 1 => (lo, hi)
  | k + 2 => (lo * (IU lo hi (k + 1)).1 - (IU lo hi k).2, hi * (IU lo hi (k + 1)).2 - (IU lo hi k).1)
theorem iu_sound {lo hi b : Rat} (h0 : 0 ≤ lo) (h1 : lo ≤ b) (h2 : b ≤ hi) : ∀ k, (∀ j, j < k → 0 ≤ (IU lo hi j).1) → (IU lo hi k).1 ≤ U b k ∧ U b k ≤ (IU lo hi k).2
  | 0, _ => ⟨Rat.le_refl, Rat.le_refl⟩
  | 1, _ => ⟨h1, h2⟩
  | k + 2, hp => by
    have a := iu_sound h0 h1 h2 (k + 1) fun j hj => hp j (by omega)
    have c := iu_sound h0 h1 h2 k fun j hj => hp j (by omega)
    have p := hp (k + 1) (by omega)
    have x := Rat.mul_nonneg (show 0 ≤ b - lo by grind) p
    have y := Rat.mul_nonneg (show 0 ≤ b by grind) (show 0 ≤ U b (k + 1) - (IU lo hi (k + 1)).1 by grind)
    have z := Rat.mul_nonneg (show 0 ≤ hi - b by grind) (show 0 ≤ U b (k + 1) by grind)
    have u := Rat.mul_nonneg (show 0 ≤ hi by grind) (show 0 ≤ (IU lo hi (k + 1)).2 - U b (k + 1) by grind)
    show lo * (IU lo hi (k + 1)).1 - (IU lo hi k).2 ≤ b * U b (k + 1) - U b k ∧ b * U b (k + 1) - U b k ≤ hi * (IU lo hi (k + 1)).2 - (IU lo hi k).1
    grind
/-- what is asked of the number of an order -/
structure Num (m : Nat) (c : Re) : Prop where
  zero : ∀ n, m = n + 1 → U c n = 0
  pos : ∀ k, (m = 0 ∨ k < m) → 0 ≤ U c k
  one : ∀ k, (m = 0 ∨ k < m) → 1 ≤ U c k + Up c k
theorem u_norm {R : Type} [CommRing R] (b : R) : ∀ k, U b (k + 1) * U b (k + 1) - b * U b (k + 1) * U b k + U b k * U b k = 1
  | 0 => by show b * b - b * b * 1 + 1 * 1 = 1; grind
  | k + 1 => by
    have ih := u_norm b k
    show (b * U b (k + 1) - U b k) * (b * U b (k + 1) - U b k) - b * (b * U b (k + 1) - U b k) * U b (k + 1) + U b (k + 1) * U b (k + 1) = 1
    grind
/-- an order from 3 on, by an interval -/
theorem num_of (n : Nat) (lo hi : Rat) (h0 : 0 ≤ lo) (hw : lo ≤ hi) (h1 : U lo (n + 2) ≤ 0) (h2 : 0 ≤ U hi (n + 2)) (hp : ∀ k, k < n + 2 → 0 ≤ (IU lo hi k).1) (ho : ∀ k, k < n + 1 → 1 ≤ (IU lo hi (k + 1)).1 + (IU lo hi k).1) :
    ∃ a : Sq, (∀ i, lo ≤ a.f i ∧ a.f i ≤ hi) ∧ Num (n + 3) (Re.of a) := by
  obtain ⟨a, ha, hz⟩ := root_ex (n + 2) lo (hi - lo) (by grind) h1 (by rw [show lo + (hi - lo) = hi by grind]; exact h2)
  rw [show lo + (hi - lo) = hi by grind] at ha
  have low : ∀ k, k < n + 2 → ∀ i, (IU lo hi k).1 ≤ U (a.f i) k := fun k hk i => (iu_sound h0 (ha i).1 (ha i).2 k fun j hj => hp j (by omega)).1
  have pos : ∀ k, k < n + 2 → 0 ≤ U (Re.of a) k := fun k hk => by
    rw [useq_of]
    exact of_nonneg fun i => by
      rw [useq_f]
      exact Rat.le_trans (hp k hk) (low k hk i)
  refine ⟨a, ha, fun m hm => ?_, fun k hk => ?_, fun k hk => ?_⟩
  · have : m = n + 2 := by omega
    rw [this]
    exact hz
  · have hk := hk.resolve_left (by omega)
    by_cases c : k = n + 2
    · rw [c, hz]
      exact Std.IsPreorder.le_refl _
    · exact pos k (by omega)
  · have hk := hk.resolve_left (by omega)
    cases k with
    | zero =>
      show (1 : Re) ≤ 1 + 0
      grind
    | succ k =>
      show 1 ≤ U (Re.of a) (k + 1) + U (Re.of a) k
      by_cases c : k + 1 = n + 2
      · have hk2 : k = n + 1 := by omega
        subst hk2
        have nm := u_norm (Re.of a) (n + 1)
        have p := pos (n + 1) (by omega)
        rw [hz] at nm ⊢
        rcases Std.IsLinearPreorder.le_total (1 : Re) (U (Re.of a) (n + 1)) with l | l
        · grind
        · have q := OrderedRing.mul_nonneg (show (0 : Re) ≤ 1 - U (Re.of a) (n + 1) by grind) p
          have q2 : (1 - U (Re.of a) (n + 1)) * U (Re.of a) (n + 1) = U (Re.of a) (n + 1) - 1 := by grind
          rw [q2] at q
          grind
      · have s : 0 ≤ Re.of ((Useq a (k + 1)).add ((Useq a k).add (cst (-1)))) := of_nonneg fun i => by
          show 0 ≤ (Useq a (k + 1)).f i + ((Useq a k).f i + -1)
          rw [useq_f, useq_f]
          have x := low (k + 1) (by omega) i
          have y := low k (by omega) i
          have z := ho k (by omega)
          grind
        have e : Re.of ((Useq a (k + 1)).add ((Useq a k).add (cst (-1)))) = U (Re.of a) (k + 1) + (U (Re.of a) k + -1) := by
          rw [useq_of, useq_of]
          rfl
        rw [e] at s
        grind
/-- the bounds of the numbers, in parts of 2 ^ 30 -/
def low : Nat → Int
  | 3 => 1073741824
  | 4 => 1518500249
  | 5 => 1737350766
  | 6 => 1859775393
  | 7 => 1934815911
  | 8 => 1984016188
  | 9 => 2017974537
  | 10 => 2042378317
  | 11 => 2060495471
  | 12 => 2074309917
  | _ => 0
def loR (m : Nat) : Rat := mkRat (low m) (2 ^ 30)
def hiR (m : Nat) : Rat := mkRat (low m + 1) (2 ^ 30)
theorem checks : ∀ n : Fin 10, 0 ≤ loR (n.1 + 3) ∧ loR (n.1 + 3) ≤ hiR (n.1 + 3) ∧ U (loR (n.1 + 3)) (n.1 + 2) ≤ 0 ∧ 0 ≤ U (hiR (n.1 + 3)) (n.1 + 2) ∧ (∀ k : Fin (n.1 + 2), 0 ≤ (IU (loR (n.1 + 3)) (hiR (n.1 + 3)) k.1).1) ∧ (∀ k : Fin (n.1 + 1), 1 ≤ (IU (loR (n.1 + 3)) (hiR (n.1 + 3)) (k.1 + 1)).1 + (IU (loR (n.1 + 3)) (hiR (n.1 + 3)) k.1).1) := by decide +kernel
theorem num_big (m : Nat) (h3 : 3 ≤ m) (h12 : m ≤ 12) : ∃ a : Sq, (∀ i, loR m ≤ a.f i ∧ a.f i ≤ hiR m) ∧ Num m (Re.of a) := by
  obtain ⟨n, rfl⟩ : ∃ n, m = n + 3 := ⟨m - 3, by omega⟩
  obtain ⟨c1, c2, c3, c4, c5, c6⟩ := checks ⟨n, by omega⟩
  exact num_of n _ _ c1 c2 c3 c4 (fun k hk => c5 ⟨k, hk⟩) fun k hk => c6 ⟨k, hk⟩
theorem num_two : Num 2 (Re.of (cst 0)) := by
  have e : Re.of (cst 0) = (0 : Re) := rfl
  rw [e]
  refine ⟨fun n hn => ?_, fun k hk => ?_, fun k hk => ?_⟩
  · have : n = 1 := by omega
    subst this
    rfl
  · have hk := hk.resolve_left (by omega)
    match k, hk with
    | 0, _ => show (0 : Re) ≤ 1; grind
    | 1, _ => show (0 : Re) ≤ 0; grind
  · have hk := hk.resolve_left (by omega)
    match k, hk with
    | 0, _ => show (1 : Re) ≤ 1 + 0; grind
    | 1, _ => show (1 : Re) ≤ 0 + 1; grind
theorem num_none : Num 0 (Re.of (cst 2)) := by
  have e : Re.of (cst 2) = (2 : Re) := rfl
  rw [e]
  have up : ∀ k, 0 ≤ U (2 : Re) k ∧ U (2 : Re) (k + 1) = U (2 : Re) k + 1 := fun k => by
    induction k with
    | zero =>
      show (0 : Re) ≤ 1 ∧ (2 : Re) = 1 + 1
      grind
    | succ k ih =>
      obtain ⟨i1, i2⟩ := ih
      have s : U (2 : Re) (k + 2) = 2 * U 2 (k + 1) - U 2 k := rfl
      grind
  refine ⟨fun n hn => by omega, fun k _ => (up k).1, fun k _ => ?_⟩
  cases k with
  | zero => show (1 : Re) ≤ 1 + 0; grind
  | succ k =>
    show (1 : Re) ≤ U 2 (k + 1) + U 2 k
    have a := up k
    grind
end Cox

/-! The word theorem for three orders, each 0 or from 2 to 12. -/
namespace Cox
open Lean.Grind
/-- three things for the three pairs of letters, one for equal letters -/
def tri {α : Type} (d x01 x12 x02 : α) (i j : Fin 3) : α := if i = j then d else if i.1 + j.1 = 1 then x01 else if i.1 + j.1 = 3 then x12 else x02
theorem tri_sym {α : Type} (d x y z : α) (i j : Fin 3) : tri d x y z i j = tri d x y z j i := by
  unfold tri
  by_cases h : i = j
  · rw [if_pos h, if_pos h.symm]
  · rw [if_neg h, if_neg (show ¬ j = i from fun z => h z.symm), Nat.add_comm]
def om (a b c : Nat) : Fin 3 → Fin 3 → Nat := tri 0 a b c
def okOrd (m : Nat) : Prop := m = 0 ∨ 2 ≤ m ∧ m ≤ 12
/-- the bounds of the number of an order -/
def loN (m : Nat) : Rat := if m = 0 then 2 else if m = 2 then 0 else loR m
def hiN (m : Nat) : Rat := if m = 0 then 2 else if m = 2 then 0 else hiR m
theorem num_ex (m : Nat) (h : okOrd m) : ∃ a : Sq, (∀ i, loN m ≤ a.f i ∧ a.f i ≤ hiN m) ∧ Num m (Re.of a) := by
  unfold loN hiN
  rcases h with rfl | ⟨h2, h12⟩
  · exact ⟨cst 2, fun i => by rw [if_pos rfl, if_pos rfl]; exact ⟨Rat.le_refl, Rat.le_refl⟩, num_none⟩
  · by_cases c : m = 2
    · subst c
      exact ⟨cst 0, fun i => by simp only [if_neg (show ¬ (2 : Nat) = 0 by decide), if_true]; exact ⟨Rat.le_refl, Rat.le_refl⟩, num_two⟩
    · rw [if_neg (by omega), if_neg c, if_neg (by omega), if_neg c]
      exact num_big m (by omega) h12
theorem ord_of {a b c : Nat} {x y z : Re} (hx : Num a x) (hy : Num b y) (hz : Num c z) : Ord (om a b c) (tri (-2) x y z) := by
  have each : ∀ i j, i ≠ j → Num (om a b c i j) (tri (-2) x y z i j) := fun i j hij => by
    unfold om tri
    rw [if_neg hij, if_neg hij]
    by_cases c1 : i.1 + j.1 = 1
    · rw [if_pos c1, if_pos c1]; exact hx
    · rw [if_neg c1, if_neg c1]
      by_cases c2 : i.1 + j.1 = 3
      · rw [if_pos c2, if_pos c2]; exact hy
      · rw [if_neg c2, if_neg c2]; exact hz
  exact {
    two := fun i => by unfold tri; rw [if_pos rfl]
    sym := tri_sym _ _ _ _
    msym := tri_sym _ _ _ _
    zero := fun i j n hij hm => (each i j hij).zero n hm
    pos := fun i j k hij hk => (each i j hij).pos k hk
    one := fun i j k hij hk => (each i j hij).one k hk }
/-- for three orders: rational sequences near which their numbers lie -/
theorem ord_ex {a b c : Nat} (ha : okOrd a) (hb : okOrd b) (hc : okOrd c) : ∃ x y z : Sq, (∀ i, loN a ≤ x.f i ∧ x.f i ≤ hiN a) ∧ (∀ i, loN b ≤ y.f i ∧ y.f i ≤ hiN b) ∧ (∀ i, loN c ≤ z.f i ∧ z.f i ≤ hiN c) ∧
    Num a (Re.of x) ∧ Num b (Re.of y) ∧ Num c (Re.of z) ∧ Ord (om a b c) (tri (-2) (Re.of x) (Re.of y) (Re.of z)) := by
  obtain ⟨x, hx, nx⟩ := num_ex a ha
  obtain ⟨y, hy, ny⟩ := num_ex b hb
  obtain ⟨z, hz, nz⟩ := num_ex c hc
  exact ⟨x, y, z, hx, hy, hz, nx, ny, nz, ord_of nx ny nz⟩
/-- turns alone connect the shortest words of a tile -/
theorem word_turns {a b c : Nat} (ha : okOrd a) (hb : okOrd b) (hc : okOrd c) {u w : W} (hu : Red (om a b c) u) (hw : Red (om a b c) w) (h : Eqv (om a b c) u w) : Tn (om a b c) u w := by
  obtain ⟨x, y, z, _, _, _, _, _, _, O⟩ := ord_ex ha hb hc
  exact turns O _ u w rfl hu hw h
/-- turns lead from any other word to two equal letters next to each other -/
theorem word_cut {a b c : Nat} (ha : okOrd a) (hb : okOrd b) (hc : okOrd c) {w : W} (hw : ¬ Red (om a b c) w) : ∃ (u v : W) (s : Fin 3), Tn (om a b c) w (u ++ ([s, s] ++ v)) := by
  obtain ⟨x, y, z, _, _, _, _, _, _, O⟩ := ord_ex ha hb hc
  exact shorten O w hw
end Cox
#print axioms Cox.word_turns
#print axioms Cox.word_cut

/-! The program's depths, by integers: how wrong they are, and what their signs tell. -/
namespace Cox
open Lean.Grind
section
variable {R : Type} [CommRing R]
def stepG (c : Fin 3 → Fin 3 → R) (i : Fin 3) (d : Fin 3 → R) : Fin 3 → R := fun j => if j = i then -d i else d j + c i j * d i
def depG (c : Fin 3 → Fin 3 → R) (w : W) : Fin 3 → R := w.foldr (stepG c) (fun _ => 1)
def sumv (v : V3 R) : R := v 0 + v 1 + v 2
theorem sumv_lc (p q : R) (x y : V3 R) : sumv (lc p x q y) = p * sumv x + q * sumv y := by
  unfold sumv lc
  grind
theorem act_other {m : Fin 3 → Fin 3 → Nat} {c : Fin 3 → Fin 3 → R} (G : Geo m c) {i j : Fin 3} (hij : i ≠ j) : act c i (e j) = lc 1 (e j) (c i j) (e i) := by
  funext k
  unfold act bump lc
  have d : dot c i (e j) = c i j := by
    unfold dot e
    have h3 : j = 0 ∨ j = 1 ∨ j = 2 := by
      rcases j with ⟨j, hj⟩
      have : j = 0 ∨ j = 1 ∨ j = 2 := by omega
      rcases this with rfl | rfl | rfl
      · exact .inl rfl
      · exact .inr (.inl rfl)
      · exact .inr (.inr rfl)
    rcases h3 with rfl | rfl | rfl <;> simp <;> grind
  rw [d]
  unfold e
  by_cases h : k = i
  · simp only [if_pos h]; grind
  · simp only [if_neg h]; grind
theorem act_self {m : Fin 3 → Fin 3 → Nat} {c : Fin 3 → Fin 3 → R} (G : Geo m c) (s : Fin 3) : act c s (e s) = lc (-1) (e s) 0 (e s) := by
  have h2 := G.two s
  funext k
  unfold act bump lc
  have d : dot c s (e s) = c s s := by
    unfold dot e
    have h3 : s = 0 ∨ s = 1 ∨ s = 2 := by
      rcases s with ⟨s, hs⟩
      have : s = 0 ∨ s = 1 ∨ s = 2 := by omega
      rcases this with rfl | rfl | rfl
      · exact .inl rfl
      · exact .inr (.inl rfl)
      · exact .inr (.inr rfl)
    rcases h3 with rfl | rfl | rfl <;> simp <;> grind
  rw [d, h2]
  unfold e
  by_cases h : k = s
  · simp only [if_pos h]; grind
  · simp only [if_neg h]; grind
theorem sumv_e (j : Fin 3) : sumv (e j : V3 R) = 1 := by
  unfold sumv e
  have h3 : j = 0 ∨ j = 1 ∨ j = 2 := by
    rcases j with ⟨j, hj⟩
    have : j = 0 ∨ j = 1 ∨ j = 2 := by omega
    rcases this with rfl | rfl | rfl
    · exact .inl rfl
    · exact .inr (.inl rfl)
    · exact .inr (.inr rfl)
  rcases h3 with rfl | rfl | rfl <;> simp <;> grind
/-- a depth is the sum of a root's coordinates -/
theorem depG_root {m : Fin 3 → Fin 3 → Nat} {c : Fin 3 → Fin 3 → R} (G : Geo m c) : ∀ (w : W) (j : Fin 3), depG c w j = sumv (actw c w.reverse (e j))
  | [], j => (sumv_e j).symm
  | i :: w, j => by
    show stepG c i (depG c w) j = _
    rw [List.reverse_cons, actw_append]
    show _ = sumv (actw c w.reverse (act c i (e j)))
    unfold stepG
    by_cases hj : j = i
    · subst hj
      rw [if_pos rfl, act_self G, actw_lc, sumv_lc, depG_root G w j]
      grind
    · rw [if_neg hj, act_other G (fun z => hj z.symm), actw_lc, sumv_lc, depG_root G w j, depG_root G w i]
      grind
end
section
variable {R : Type} [CommRing R] [LE R] [LT R] [Std.LawfulOrderLT R] [Std.IsLinearOrder R] [OrderedRing R]
variable {m : Fin 3 → Fin 3 → Nat} {c : Fin 3 → Fin 3 → R}
theorem cons_reverse (w : W) (j : Fin 3) : ln m (j :: w) = ln m (w.reverse ++ [j]) := by
  rw [← ln_reverse, List.reverse_cons]
theorem dep_far (O : Ord m c) {w : W} {j : Fin 3} (h : ln m (j :: w) = ln m w + 1) : 1 ≤ depG c w j := by
  rw [depG_root O.toGeo]
  rw [cons_reverse, ← ln_reverse w] at h
  exact (root_pos O _ w.reverse j (Nat.le_refl _) h).2
theorem dep_near (O : Ord m c) {w : W} {j : Fin 3} (h : ln m w = ln m (j :: w) + 1) : depG c w j ≤ -1 := by
  rw [depG_root O.toGeo]
  rw [cons_reverse, ← ln_reverse w] at h
  obtain ⟨v, hv, e⟩ := root_neg O w.reverse j h
  rw [e, sumv_lc]
  have := hv.2
  have e : sumv v = v 0 + v 1 + v 2 := rfl
  grind
end
/-! members of sequences -/
def depS (c : Fin 3 → Fin 3 → Sq) : W → Fin 3 → Sq
  | [], _ => cst 1
  | i :: w, j => if j = i then (depS c w i).neg else (depS c w j).add ((c i j).mul (depS c w i))
theorem depS_of (c : Fin 3 → Fin 3 → Sq) (cR : Fin 3 → Fin 3 → Re) (hc : ∀ i j, i ≠ j → cR i j = Re.of (c i j)) : ∀ (w : W) (j : Fin 3), depG cR w j = Re.of (depS c w j)
  | [], j => rfl
  | i :: w, j => by
    show stepG cR i (depG cR w) j = Re.of (if j = i then (depS c w i).neg else (depS c w j).add ((c i j).mul (depS c w i)))
    unfold stepG
    by_cases hj : j = i
    · rw [if_pos hj, if_pos hj, depS_of c cR hc w i]
      rfl
    · rw [if_neg hj, if_neg hj, depS_of c cR hc w i, depS_of c cR hc w j, hc i j (fun z => hj z.symm)]
      rfl
theorem depS_f (c : Fin 3 → Fin 3 → Sq) (N : Nat) : ∀ (w : W) (j : Fin 3), (depS c w j).f N = depG (fun i j => (c i j).f N) w j
  | [], j => rfl
  | i :: w, j => by
    show (if j = i then (depS c w i).neg else (depS c w j).add ((c i j).mul (depS c w i))).f N = stepG (fun i j => (c i j).f N) i (depG (fun i j => (c i j).f N) w) j
    unfold stepG
    by_cases hj : j = i
    · rw [if_pos hj, if_pos hj]
      show -(depS c w i).f N = _
      rw [depS_f c N w i]
    · rw [if_neg hj, if_neg hj]
      show (depS c w j).f N + (c i j).f N * (depS c w i).f N = _
      rw [depS_f c N w i, depS_f c N w j]
theorem ge_member {a : Sq} (h1 : 1 ≤ Re.of a) : ∃ N, ∀ q : Rat, q = a.f N → 3 ≤ 4 * q := by
  obtain ⟨C, hC⟩ := (show (cst 1).le a from h1)
  obtain ⟨N, hN⟩ := h_small (1 / 4) (by decide +kernel) C
  refine ⟨N, fun q hq => ?_⟩
  have x : 1 - a.f N ≤ C * h N := hC N
  have f : (1 / 4 : Rat) * 4 = 1 := by decide +kernel
  grind
/-! the integers -/
def stepI (B : Fin 3 → Fin 3 → Int) (T : Int) (i : Fin 3) (D : Fin 3 → Int) : Fin 3 → Int := fun j => if j = i then -D i else D j + B i j * D i / T
def depI (B : Fin 3 → Fin 3 → Int) (T : Int) (w : W) : Fin 3 → Int := w.foldr (stepI B T) (fun _ => T)
theorem le_of_mul {t x y : Rat} (ht : 0 < t) (l : t * x ≤ t * y) : x ≤ y := by
  by_cases c : x ≤ y
  · exact c
  · have := Rat.mul_pos ht (show 0 < x - y by grind)
    grind
/-- one mirror: an error e becomes at most 3 e + 2 M + 3 -/
theorem err_step {T q b D c d M e : Rat} (hT : 0 < T) (h1 : q * T ≤ b * D) (h2 : b * D ≤ q * T + T) (hb : -2 ≤ b - T * c ∧ b - T * c ≤ 2) (hc : 0 ≤ c ∧ c ≤ 2) (hd : -M ≤ d ∧ d ≤ M) (he : -e ≤ D - T * d ∧ D - T * d ≤ e) (heT : e ≤ T) (e0 : 0 ≤ e) :
    -(2 * e + 2 * M + 3) ≤ q - T * (c * d) ∧ q - T * (c * d) ≤ 2 * e + 2 * M + 3 := by
  have p1 := mul_bd (a := c) (b := D - T * d) (B := 2) (D := e) (by grind) hc.2 he.1 he.2
  have p2 := mul_bd (a := -c) (b := D - T * d) (B := 2) (D := e) (by grind) (by grind) he.1 he.2
  have m1 := Rat.mul_nonneg (show 0 ≤ T by grind) (show 0 ≤ M - d by grind)
  have m2 := Rat.mul_nonneg (show 0 ≤ T by grind) (show 0 ≤ d + M by grind)
  have p3 := mul_bd (a := b - T * c) (b := D) (B := 2) (D := T * M + T) hb.1 hb.2 (by grind) (by grind)
  have p4 := mul_bd (a := -(b - T * c)) (b := D) (B := 2) (D := T * M + T) (by grind) (by grind) (by grind) (by grind)
  have u1 := Rat.mul_nonneg (show 0 ≤ T by grind) (show 0 ≤ 2 * e - c * (D - T * d) by grind)
  have u2 := Rat.mul_nonneg (show 0 ≤ T by grind) (show 0 ≤ 2 * e - -c * (D - T * d) by grind)
  constructor
  · refine le_of_mul hT ?_
    grind
  · refine le_of_mul hT ?_
    grind
end Cox

/-! Errors of all steps; the signs of the integers tell the lengths. -/
namespace Cox
open Lean.Grind
def p3 : Nat → Rat
  | 0 => 1
  | k + 1 => 3 * p3 k
theorem p3_ge : ∀ k, 1 ≤ p3 k
  | 0 => Rat.le_refl
  | k + 1 => by
    have := p3_ge k
    show 1 ≤ 3 * p3 k
    grind
theorem kp_mono (k : Nat) : (k : Rat) * p3 k ≤ ((k + 1 : Nat) : Rat) * p3 (k + 1) := by
  have a := p3_ge k
  have n : (0 : Rat) ≤ (k : Rat) := by grind
  have x := Rat.mul_nonneg n (show 0 ≤ p3 k by grind)
  show _ ≤ ((k + 1 : Nat) : Rat) * (3 * p3 k)
  have e : ((k + 1 : Nat) : Rat) * (3 * p3 k) = 3 * ((k : Rat) * p3 k) + 3 * p3 k := by grind
  rw [e]
  grind
theorem kp_le (k : Nat) : ∀ d, (k : Rat) * p3 k ≤ ((k + d : Nat) : Rat) * p3 (k + d)
  | 0 => Rat.le_refl
  | d + 1 => Rat.le_trans (kp_le k d) (kp_mono (k + d))
theorem floor_cast (b D T : Int) (hT : 0 < T) : (((b * D / T : Int)) : Rat) * (T : Rat) ≤ (b : Rat) * (D : Rat) ∧ (b : Rat) * (D : Rat) ≤ ((b * D / T : Int) : Rat) * (T : Rat) + (T : Rat) := by
  have a := Int.ediv_mul_le (b * D) (show T ≠ 0 by omega)
  have c := Int.lt_ediv_add_one_mul_self (b * D) hT
  have a2 : ((b * D / T * T : Int) : Rat) ≤ ((b * D : Int) : Rat) := Rat.intCast_le_intCast.mpr a
  have c2 : ((b * D : Int) : Rat) ≤ (((b * D / T + 1) * T : Int) : Rat) := Rat.intCast_le_intCast.mpr (by omega)
  rw [Rat.intCast_mul, Rat.intCast_mul] at a2
  rw [Rat.intCast_mul, Rat.intCast_mul, Rat.intCast_add] at c2
  have one : ((1 : Int) : Rat) = 1 := rfl
  rw [one] at c2
  refine ⟨a2, ?_⟩
  grind
structure Near (B : Fin 3 → Fin 3 → Int) (T : Int) (c : Fin 3 → Fin 3 → Rat) : Prop where
  b : ∀ i j, i ≠ j → -2 ≤ (B i j : Rat) - (T : Rat) * c i j ∧ (B i j : Rat) - (T : Rat) * c i j ≤ 2
  c : ∀ i j, i ≠ j → 0 ≤ c i j ∧ c i j ≤ 2
theorem err {B : Fin 3 → Fin 3 → Int} {T : Int} {c : Fin 3 → Fin 3 → Rat} (hT : 0 < T) (hn : Near B T c) (K : Nat) (hK : 2 * ((K : Rat) * p3 K) ≤ (T : Rat)) : ∀ w : W, w.length ≤ K → ∀ j, (-(2 * ((w.length : Rat) * p3 w.length)) ≤ (depI B T w j : Rat) - (T : Rat) * depG c w j ∧ (depI B T w j : Rat) - (T : Rat) * depG c w j ≤ 2 * ((w.length : Rat) * p3 w.length)) ∧ (-(p3 w.length) ≤ depG c w j ∧ depG c w j ≤ p3 w.length)
  | [], _, j => by
    have e1 : depI B T [] j = T := rfl
    have e2 : depG c [] j = 1 := rfl
    have e3 : p3 ([] : W).length = 1 := rfl
    have e4 : ((([] : W).length : Nat) : Rat) = 0 := rfl
    rw [e1, e2, e3, e4]
    grind
  | i :: w, hw, j => by
    have hw2 : w.length + 1 ≤ K := hw
    have ih := err hT hn K hK w (by omega)
    have hTr : (0 : Rat) < (T : Rat) := by
      have : ((0 : Int) : Rat) < (T : Rat) := Rat.intCast_lt_intCast.mpr hT
      exact this
    have p := p3_ge w.length
    have n : (0 : Rat) ≤ (w.length : Rat) := by grind
    have e0 := Rat.mul_nonneg n (show 0 ≤ p3 w.length by grind)
    have eT : 2 * ((w.length : Rat) * p3 w.length) ≤ (T : Rat) := by
      have x := kp_le w.length (K - w.length)
      rw [show w.length + (K - w.length) = K by omega] at x
      grind
    have eL : (((i :: w).length : Nat) : Rat) * p3 (i :: w).length = 3 * ((w.length : Rat) * p3 w.length) + 3 * p3 w.length := by
      show ((w.length + 1 : Nat) : Rat) * (3 * p3 w.length) = _
      grind
    have eP : p3 (i :: w).length = 3 * p3 w.length := rfl
    rw [eL, eP]
    have eI : depI B T (i :: w) j = stepI B T i (depI B T w) j := rfl
    have eD : depG c (i :: w) j = stepG c i (depG c w) j := rfl
    rw [eI, eD]
    unfold stepI stepG
    by_cases hj : j = i
    · rw [if_pos hj, if_pos hj]
      have a := ih i
      have ng : ((-depI B T w i : Int) : Rat) = -(depI B T w i : Rat) := Rat.intCast_neg _
      rw [ng]
      grind
    · rw [if_neg hj, if_neg hj]
      have a := ih i
      have d := ih j
      have hij : i ≠ j := fun z => hj z.symm
      have fl := floor_cast (B i j) (depI B T w i) T hT
      have es := err_step hTr fl.1 fl.2 (hn.b i j hij) (hn.c i j hij) a.2 a.1 eT (by grind)
      have ad : ((depI B T w j + B i j * depI B T w i / T : Int) : Rat) = (depI B T w j : Rat) + ((B i j * depI B T w i / T : Int) : Rat) := Rat.intCast_add _ _
      rw [ad]
      have c1 := mul_bd (a := c i j) (b := depG c w i) (B := 2) (D := p3 w.length) (by have := hn.c i j hij; grind) (hn.c i j hij).2 a.2.1 a.2.2
      have c2 := mul_bd (a := -c i j) (b := depG c w i) (B := 2) (D := p3 w.length) (by have := hn.c i j hij; grind) (by have := hn.c i j hij; grind) a.2.1 a.2.2
      grind
/-- the numbers that the program has for three orders, near to sequences with all that is asked -/
structure Fits (m : Fin 3 → Fin 3 → Nat) (B : Fin 3 → Fin 3 → Int) (T : Int) (K : Nat) : Prop where
  pos : 0 < T
  room : 8 * ((K : Rat) * p3 K) ≤ (T : Rat)
  seq : ∃ (c : Fin 3 → Fin 3 → Sq) (cR : Fin 3 → Fin 3 → Re), Ord m cR ∧ (∀ i j, i ≠ j → cR i j = Re.of (c i j)) ∧ ∀ N, Near B T fun i j => (c i j).f N
/-- the signs tell the lengths -/
theorem signs {m : Fin 3 → Fin 3 → Nat} {B : Fin 3 → Fin 3 → Int} {T : Int} {K : Nat} (F : Fits m B T K) {w : W} (hw : w.length ≤ K) (j : Fin 3) : (ln m (j :: w) = ln m w + 1 → 0 < depI B T w j) ∧ (ln m w = ln m (j :: w) + 1 → depI B T w j < 0) := by
  obtain ⟨c, cR, O, hc, hn⟩ := F.seq
  have hTr : (0 : Rat) < (T : Rat) := by
    have : ((0 : Int) : Rat) < (T : Rat) := Rat.intCast_lt_intCast.mpr F.pos
    exact this
  have k0 := p3_ge w.length
  have n0 : (0 : Rat) ≤ (w.length : Rat) := by grind
  have x0 := Rat.mul_nonneg n0 (show 0 ≤ p3 w.length by grind)
  have k1 := p3_ge K
  have n1 : (0 : Rat) ≤ (K : Rat) := by grind
  have x1 := Rat.mul_nonneg n1 (show 0 ≤ p3 K by grind)
  have rm := F.room
  have hK : 2 * ((K : Rat) * p3 K) ≤ (T : Rat) := by grind
  have le := kp_le w.length (K - w.length)
  rw [show w.length + (K - w.length) = K by omega] at le
  have root := depS_of c cR hc w j
  constructor
  · intro h
    have g := dep_far O h
    rw [root] at g
    obtain ⟨N, hN⟩ := ge_member g
    have q := hN _ rfl
    rw [depS_f] at q
    have er := (err F.pos (hn N) K hK w hw j).1
    have tq := Rat.mul_nonneg (show 0 ≤ (T : Rat) by grind) (show 0 ≤ 4 * depG (fun i j => (c i j).f N) w j - 3 by grind)
    have r : ((0 : Int) : Rat) < (depI B T w j : Rat) := by
      show (0 : Rat) < _
      grind
    exact Rat.intCast_lt_intCast.mp r
  · intro h
    have g := dep_near O h
    rw [root] at g
    have g2 : 1 ≤ Re.of (depS c w j).neg := by
      have e : Re.of (depS c w j).neg = -Re.of (depS c w j) := rfl
      rw [e]
      grind
    obtain ⟨N, hN⟩ := ge_member g2
    have q := hN _ rfl
    have e2 : (depS c w j).neg.f N = -(depS c w j).f N := rfl
    rw [e2, depS_f] at q
    have er := (err F.pos (hn N) K hK w hw j).1
    have tq := Rat.mul_nonneg (show 0 ≤ (T : Rat) by grind) (show 0 ≤ -4 * depG (fun i j => (c i j).f N) w j - 3 by grind)
    have r : (depI B T w j : Rat) < ((0 : Int) : Rat) := by
      show _ < (0 : Rat)
      grind
    exact Rat.intCast_lt_intCast.mp r
end Cox

/-! The program's bends: for each number of bits that is checked, they fit. -/
namespace Cox
open Lean.Grind
def sineF (double : Int) (T : Int) : Nat → Int × Int × Int × Int
  | 0 => (0, T, 0, 0)
  | k + 1 => match sineF double T k with
    | (before, value, sb, sl) => (value, double * value / T - before, sl, value + double * sl / T - sb)
def bendLoop (order : Nat) (T : Int) : Nat → Int → Int
  | 0, bend => bend
  | f + 1, bend => match sineF bend T (order - 1) with
    | (_, value, _, slope) => if value * T / slope ≤ 0 then bend else bendLoop order T f (bend - value * T / slope)
def bendF (order bits : Nat) : Int := if order = 0 then 2 * 2 ^ bits else bendLoop order (2 ^ bits) 40 (2 * 2 ^ bits)
def okB (w : Int) (n bits : Nat) : Bool :=
  let T : Int := 2 ^ bits
  let b := bendF (n + 3) bits
  let lo : Rat := mkRat (b - w) (2 ^ bits)
  let hi : Rat := mkRat (b + w) (2 ^ bits)
  decide (0 ≤ lo) && (decide (hi ≤ 2) && (decide (U lo (n + 2) ≤ 0) && (decide (0 ≤ U hi (n + 2)) && ((List.range (n + 2)).all (fun k => decide (0 ≤ (IU lo hi k).1)) && (List.range (n + 1)).all fun k => decide (1 ≤ (IU lo hi (k + 1)).1 + (IU lo hi k).1)))))
def okBits (bits : Nat) : Bool := (List.range 10).all fun n => okB 2 n bits
theorem nat_pos' {n : Nat} (h : 0 < n) : (0 : Rat) < (n : Rat) := by
  obtain ⟨k, rfl⟩ : ∃ k, n = k + 1 := ⟨n - 1, by omega⟩
  have e : ((k + 1 : Nat) : Rat) = (k : Rat) + 1 := Rat.natCast_add k 1
  have n : (0 : Rat) ≤ (k : Rat) := by grind
  rw [e]
  grind
theorem mk_mul (x : Int) (n : Nat) (hn : 0 < n) : ((n : Nat) : Rat) * mkRat x n = (x : Rat) := by
  rw [Rat.mkRat_eq_div]
  have p := nat_pos' hn
  have : ((n : Nat) : Rat) ≠ 0 := by grind
  grind
/-- an order's bend lies near the members of a sequence with all that is asked -/
theorem bend_ex {bits : Nat} (hb : okBits bits = true) (h2 : bendF 2 bits = 0) {m : Nat} (hm : okOrd m) : ∃ a : Sq, (∀ N, (-2 ≤ (bendF m bits : Rat) - (((2 ^ bits : Nat) : Int) : Rat) * a.f N ∧ (bendF m bits : Rat) - (((2 ^ bits : Nat) : Int) : Rat) * a.f N ≤ 2) ∧ (0 ≤ a.f N ∧ a.f N ≤ 2)) ∧ Num m (Re.of a) := by
  have T0 : 0 < 2 ^ bits := Nat.pow_pos (by decide)
  have cT : (((2 ^ bits : Nat) : Int) : Rat) = ((2 ^ bits : Nat) : Rat) := Rat.intCast_natCast _
  rw [cT]
  rcases hm with rfl | ⟨hm2, hm12⟩
  · refine ⟨cst 2, fun N => ?_, num_none⟩
    have e : bendF 0 bits = 2 * ((2 ^ bits : Nat) : Int) := by
      unfold bendF
      rw [if_pos rfl]
      simp
    have e2 : (bendF 0 bits : Rat) = 2 * ((2 ^ bits : Nat) : Rat) := by
      rw [e, Rat.intCast_mul, Rat.intCast_natCast]
      rfl
    rw [e2]
    show (-2 ≤ 2 * ((2 ^ bits : Nat) : Rat) - ((2 ^ bits : Nat) : Rat) * 2 ∧ 2 * ((2 ^ bits : Nat) : Rat) - ((2 ^ bits : Nat) : Rat) * 2 ≤ 2) ∧ ((0 : Rat) ≤ 2 ∧ (2 : Rat) ≤ 2)
    grind
  · by_cases c : m = 2
    · subst c
      refine ⟨cst 0, fun N => ?_, num_two⟩
      rw [h2]
      show (-2 ≤ ((0 : Int) : Rat) - ((2 ^ bits : Nat) : Rat) * 0 ∧ ((0 : Int) : Rat) - ((2 ^ bits : Nat) : Rat) * 0 ≤ 2) ∧ ((0 : Rat) ≤ 0 ∧ (0 : Rat) ≤ 2)
      have z : ((0 : Int) : Rat) = 0 := rfl
      rw [z]
      grind
    · obtain ⟨n, rfl⟩ : ∃ n, m = n + 3 := ⟨m - 3, by omega⟩
      have o := List.all_eq_true.mp hb n (List.mem_range.mpr (by omega))
      unfold okB at o
      simp only [Bool.and_eq_true, decide_eq_true_eq] at o
      obtain ⟨c1, c2, c3, c4, c5, c6⟩ := o
      have c5 := List.all_eq_true.mp c5
      have c6 := List.all_eq_true.mp c6
      have k1 := mk_mul (bendF (n + 3) bits - 2) (2 ^ bits) T0
      have k2 := mk_mul (bendF (n + 3) bits + 2) (2 ^ bits) T0
      have i1 : ((bendF (n + 3) bits - 2 : Int) : Rat) = (bendF (n + 3) bits : Rat) - 2 := Rat.intCast_sub _ _
      have i2 : ((bendF (n + 3) bits + 2 : Int) : Rat) = (bendF (n + 3) bits : Rat) + 2 := Rat.intCast_add _ _
      rw [i1] at k1
      rw [i2] at k2
      have tp : (0 : Rat) < ((2 ^ bits : Nat) : Rat) := nat_pos' T0
      obtain ⟨a, ha, na⟩ := num_of n (mkRat (bendF (n + 3) bits - 2) (2 ^ bits)) (mkRat (bendF (n + 3) bits + 2) (2 ^ bits)) c1 (le_of_mul tp (by rw [k1, k2]; grind)) c3 c4
        (fun k hk => of_decide_eq_true (c5 k (List.mem_range.mpr hk))) (fun k hk => of_decide_eq_true (c6 k (List.mem_range.mpr hk)))
      refine ⟨a, fun N => ?_, na⟩
      have x := ha N
      have u1 := Rat.mul_nonneg (show 0 ≤ ((2 ^ bits : Nat) : Rat) by grind) (show 0 ≤ a.f N - mkRat (bendF (n + 3) bits - 2) (2 ^ bits) by grind)
      have u2 := Rat.mul_nonneg (show 0 ≤ ((2 ^ bits : Nat) : Rat) by grind) (show 0 ≤ mkRat (bendF (n + 3) bits + 2) (2 ^ bits) - a.f N by grind)
      refine ⟨?_, Rat.le_trans c1 x.1, Rat.le_trans x.2 c2⟩
      grind
theorem fits {bits K : Nat} (hb : okBits bits = true) (h2 : bendF 2 bits = 0) (room : 8 * ((K : Rat) * p3 K) ≤ ((2 ^ bits : Nat) : Rat)) {a b c : Nat} (ha : okOrd a) (hb2 : okOrd b) (hc : okOrd c) :
    Fits (om a b c) (tri 0 (bendF a bits) (bendF b bits) (bendF c bits)) ((2 ^ bits : Nat) : Int) K := by
  have T0 : 0 < 2 ^ bits := Nat.pow_pos (by decide)
  obtain ⟨x, hx, nx⟩ := bend_ex hb h2 ha
  obtain ⟨y, hy, ny⟩ := bend_ex hb h2 hb2
  obtain ⟨z, hz, nz⟩ := bend_ex hb h2 hc
  refine ⟨by omega, by rw [Rat.intCast_natCast]; exact room, tri (cst 0) x y z, tri (-2) (Re.of x) (Re.of y) (Re.of z), ord_of nx ny nz, fun i j hij => ?_, fun N => ⟨fun i j hij => ?_, fun i j hij => ?_⟩⟩
  · unfold tri
    rw [if_neg hij, if_neg hij]
    split
    · rfl
    · split <;> rfl
  · unfold tri
    simp only [if_neg hij]
    split
    · exact (hx N).1
    · split
      · exact (hy N).1
      · exact (hz N).1
  · unfold tri
    simp only [if_neg hij]
    split
    · exact (hx N).2
    · split
      · exact (hy N).2
      · exact (hz N).2
/-- the sizes of the program: 128 letters each -/
theorem size_ok : ∀ s : Fin 8, okBits (256 * (s.1 + 1) + 32) = true ∧ bendF 2 (256 * (s.1 + 1) + 32) = 0 ∧ 8 * (((128 * (s.1 + 1) : Nat) : Rat) * p3 (128 * (s.1 + 1))) ≤ ((2 ^ (256 * (s.1 + 1) + 32) : Nat) : Rat) := by decide +kernel
end Cox

/-! The normal word: letter by letter the least one that shortens. -/
namespace Cox
open Lean.Grind
variable {m : Fin 3 → Fin 3 → Nat} {B : Fin 3 → Fin 3 → Int} {T : Int} {K : Nat}
/-- the least letter with a negative depth -/
def firstNeg (D : Fin 3 → Int) : Option (Fin 3) := if D 0 < 0 then some 0 else if D 1 < 0 then some 1 else if D 2 < 0 then some 2 else none
theorem three (j : Fin 3) : j = 0 ∨ j = 1 ∨ j = 2 := by
  rcases j with ⟨j, hj⟩
  have : j = 0 ∨ j = 1 ∨ j = 2 := by omega
  rcases this with rfl | rfl | rfl
  · exact .inl rfl
  · exact .inr (.inl rfl)
  · exact .inr (.inr rfl)
theorem firstNeg_none {D : Fin 3 → Int} (h : firstNeg D = none) (j : Fin 3) : ¬ D j < 0 := by
  unfold firstNeg at h
  split at h
  · cases h
  · split at h
    · cases h
    · split at h
      · cases h
      · rcases three j with rfl | rfl | rfl <;> assumption
theorem firstNeg_some {D : Fin 3 → Int} {i : Fin 3} (h : firstNeg D = some i) : D i < 0 ∧ ∀ j, D j < 0 → i ≤ j := by
  unfold firstNeg at h
  split at h
  · cases h
    exact ⟨by assumption, fun j _ => Fin.zero_le j⟩
  · split at h
    · cases h
      refine ⟨by assumption, fun j hj => ?_⟩
      rcases three j with rfl | rfl | rfl
      · contradiction
      · decide
      · decide
    · split at h
      · cases h
        refine ⟨by assumption, fun j hj => ?_⟩
        rcases three j with rfl | rfl | rfl
        · contradiction
        · contradiction
        · decide
      · cases h
def greedy (B : Fin 3 → Fin 3 → Int) (T : Int) : Nat → (Fin 3 → Int) → W
  | 0, _ => []
  | f + 1, D => match firstNeg D with
    | none => []
    | some i => i :: greedy B T f (stepI B T i D)
/-- the order of words of one length -/
def lx : W → W → Prop
  | [], _ => True
  | _ :: _, [] => False
  | a :: x, b :: y => a < b ∨ a = b ∧ lx x y
theorem neg_iff (F : Fits m B T K) {w : W} (hw : w.length ≤ K) (j : Fin 3) : depI B T w j < 0 ↔ ln m w = ln m (j :: w) + 1 := by
  obtain ⟨s1, s2⟩ := signs F hw j
  refine ⟨fun h => ?_, s2⟩
  have a := ln_snoc (m := m) w.reverse j
  rw [← cons_reverse, ln_reverse] at a
  rcases a with a | a
  · have := s1 a
    omega
  · exact a
theorem cons_cons (w : W) (i : Fin 3) : Eqv m (i :: i :: w) w := .step (.cut [] w i)
theorem first_ex {w : W} (h : ln m w ≠ 0) : ∃ j, ln m w = ln m (j :: w) + 1 := by
  obtain ⟨t, ht⟩ := last_ex (m := m) (w := w.reverse) (by rw [ln_reverse]; exact h)
  rw [← cons_reverse, ln_reverse] at ht
  exact ⟨t, ht⟩
/-- a first letter of a shortest word shortens -/
theorem first_red {w v : W} {i : Fin 3} (h : Eqv m w (i :: v)) (r : Red m (i :: v)) : ln m w = ln m (i :: w) + 1 ∧ Eqv m (i :: w) v ∧ Red m v := by
  have e : Eqv m (i :: w) v := (h.left [i]).trans (cons_cons v i)
  have rv : Red m v := (Red.part (u := [i]) (v := v) r).2
  refine ⟨?_, e, rv⟩
  rw [ln_eqv h, ln_eqv e, r, rv]
  rfl
theorem greedy_ok (F : Fits m B T K) : ∀ (f : Nat) (u : W), u.length + f ≤ K → ln m u ≤ f → Eqv m u (greedy B T f (depI B T u)) ∧ (greedy B T f (depI B T u)).length = ln m u ∧ ∀ v, Red m v → Eqv m u v → lx (greedy B T f (depI B T u)) v
  | 0, u, _, h => by
    have e : ln m u = 0 := by omega
    exact ⟨ln_zero e, e.symm, fun _ _ _ => trivial⟩
  | f + 1, u, hK, h => by
    unfold greedy
    cases c : firstNeg (depI B T u) with
    | none =>
      have e : ln m u = 0 := Classical.byContradiction fun z => by
        obtain ⟨j, hj⟩ := first_ex z
        exact firstNeg_none c j ((neg_iff F (by omega) j).mpr hj)
      exact ⟨ln_zero e, e.symm, fun _ _ _ => trivial⟩
    | some i =>
      obtain ⟨h1, h2⟩ := firstNeg_some c
      have d := (neg_iff F (by omega) i).mp h1
      have ih := greedy_ok F f (i :: u) (by rw [List.length_cons]; omega) (by omega)
      have eD : depI B T (i :: u) = stepI B T i (depI B T u) := rfl
      rw [eD] at ih
      obtain ⟨i1, i2, i3⟩ := ih
      refine ⟨(cons_cons u i).symm.trans (i1.left [i]), by rw [List.length_cons, i2]; omega, fun v rv hv => ?_⟩
      cases v with
      | nil =>
        have := ln_eqv hv
        rw [rv] at this
        simp at this
        omega
      | cons j v =>
        obtain ⟨a1, a2, a3⟩ := first_red hv rv
        have le := h2 j ((neg_iff F (by omega) j).mpr a1)
        by_cases e : i = j
        · subst e
          exact .inr ⟨rfl, i3 v a3 a2⟩
        · exact .inl (by
            have n : i.1 ≠ j.1 := fun z => e (Fin.ext z)
            have l : i.1 ≤ j.1 := le
            show i.1 < j.1
            omega)
end Cox
#print axioms Cox.greedy_ok

/-! What a search by turns finds. -/
namespace Cox
def NoSq (v : W) : Prop := ∀ (x y : W) (s : Fin 3), v ≠ x ++ ([s, s] ++ y)
theorem closed_tn {m : Fin 3 → Fin 3 → Nat} {S : W → Prop} (hc : ∀ u v, S u → Turn1 m u v → S v) {u v : W} (h : Tn m u v) (hu : S u) : S v := by
  induction h with
  | refl u => exact hu
  | more a _ ih => exact ih (hc _ _ hu a)
/-- a set of words that is closed under turns and holds no two equal letters next to each other is the set of all shortest words of a tile -/
theorem ring_all {a b c : Nat} (ha : okOrd a) (hb : okOrd b) (hc : okOrd c) {S : W → Prop} {w : W} (h0 : S w) (ht : ∀ u v, S u → Turn1 (om a b c) u v → S v) (he : ∀ u, S u → Eqv (om a b c) w u) (hn : ∀ u, S u → NoSq u) :
    Red (om a b c) w ∧ ∀ v, S v ↔ (Eqv (om a b c) w v ∧ Red (om a b c) v) := by
  have red : ∀ u, S u → Red (om a b c) u := fun u hu => Classical.byContradiction fun z => by
    obtain ⟨x, y, s, t⟩ := word_cut ha hb hc z
    exact hn _ (closed_tn ht t hu) x y s rfl
  exact ⟨red w h0, fun v => ⟨fun hv => ⟨he v hv, red v hv⟩, fun hv => closed_tn ht (word_turns ha hb hc (red w h0) hv.2 hv.1) h0⟩⟩
/-- two equal letters cut out -/
theorem cut_eqv {m : Fin 3 → Fin 3 → Nat} (x y : W) (s : Fin 3) : Eqv m (x ++ ([s, s] ++ y)) (x ++ y) := .step (.cut x y s)
/-- the order of words of one length is total and has at most one least word -/
theorem lx_antisymm : ∀ {u v : W}, u.length = v.length → lx u v → lx v u → u = v
  | [], [], _, _, _ => rfl
  | a :: x, b :: y, h, h1, h2 => by
    have hl : x.length = y.length := by simpa using h
    rcases h1 with h1 | ⟨e1, h1⟩
    · rcases h2 with h2 | ⟨e2, h2⟩
      · have a1 : a.1 < b.1 := h1
        have a2 : b.1 < a.1 := h2
        omega
      · have a1 : a.1 < b.1 := h1
        rw [e2] at a1
        omega
    · rcases h2 with h2 | ⟨e2, h2⟩
      · have a2 : b.1 < a.1 := h2
        rw [e1] at a2
        omega
      · rw [e1, lx_antisymm hl h1 h2]
/-- the ends of a tile are the last letters of its shortest words -/
theorem ends_iff {m : Fin 3 → Fin 3 → Nat} (w : W) (s : Fin 3) : ln m w = ln m (w ++ [s]) + 1 ↔ ∃ v, Eqv m w (v ++ [s]) ∧ Red m (v ++ [s]) := by
  constructor
  · intro h
    obtain ⟨v, hv, rv⟩ := red_ex (m := m) (w ++ [s])
    have e : Eqv m w (v ++ [s]) := (snoc_snoc w s).symm.trans (hv.right [s])
    refine ⟨v, e, ?_⟩
    unfold Red
    rw [← ln_eqv e, h, ln_eqv hv, rv, List.length_append]
    rfl
  · rintro ⟨v, e, r⟩
    have e2 : Eqv m (w ++ [s]) v := (e.right [s]).trans (snoc_snoc v s)
    rw [ln_eqv e, ln_eqv e2, r, r.part.1, List.length_append]
    rfl
/-- the program's ends, by depths of the word backwards -/
theorem ends_neg {m : Fin 3 → Fin 3 → Nat} {B : Fin 3 → Fin 3 → Int} {T : Int} {K : Nat} (F : Fits m B T K) {w : W} (hw : w.length ≤ K) (s : Fin 3) : depI B T w.reverse s < 0 ↔ ln m w = ln m (w ++ [s]) + 1 := by
  rw [neg_iff F (by rw [List.length_reverse]; exact hw), cons_reverse, List.reverse_reverse, ln_reverse]
end Cox

/-! Mirrors: how often a word's walls are a given one, counted by parity; what follows for lengths and sides. -/
namespace Cox
open Classical
variable {m : Fin 3 → Fin 3 → Nat}
/-- a wall taken back along a word -/
def cj (u t : W) : W := u.reverse ++ t ++ u
theorem cj_eqv {u t t' : W} (h : Eqv m t t') : Eqv m (cj u t) (cj u t') := h.app _ _
theorem cj_app (u v t : W) : cj (u ++ v) t = cj v (cj u t) := by simp [cj]
theorem cj_word {u v t : W} (h : Eqv m u v) : Eqv m (cj u t) (cj v t) := (h.rev.right t).mul h
theorem cj_iff {u t x : W} : Eqv m (cj u t) x ↔ Eqv m t (u ++ x ++ u.reverse) := by
  constructor
  · intro h
    have h1 := h.app u u.reverse
    have e : Eqv m (u ++ cj u t ++ u.reverse) t := by
      have a := (Eqv.inv_right (m := m) u).right (t ++ (u ++ u.reverse))
      have b := (Eqv.inv_right (m := m) u).left t
      rw [List.append_nil] at b
      have c := a.trans b
      simpa [cj] using c
    exact e.symm.trans h1
  · intro h
    have h1 : Eqv m (cj u t) (cj u (u ++ x ++ u.reverse)) := cj_eqv h
    have e : Eqv m (cj u (u ++ x ++ u.reverse)) x := by
      have a := (Eqv.inv_left (m := m) u).right (x ++ (u.reverse ++ u))
      have b := (Eqv.inv_left (m := m) u).left x
      rw [List.append_nil] at b
      have c := a.trans b
      simpa [cj] using c
    exact h1.trans e
/-- whether an odd number of the walls that a word crosses is a given one -/
noncomputable def od (m : Fin 3 → Fin 3 → Nat) : W → W → Bool
  | [], _ => false
  | s :: w, t => xor (decide (Eqv m t [s])) (od m w (cj [s] t))
theorem dec_congr {p q : Prop} [Decidable p] [Decidable q] (h : p ↔ q) : decide p = decide q := by
  by_cases hp : p
  · rw [decide_eq_true hp, decide_eq_true (h.1 hp)]
  · rw [decide_eq_false hp, decide_eq_false (fun z => hp (h.2 z))]
theorem od_congr : ∀ (w : W) {t t' : W}, Eqv m t t' → od m w t = od m w t'
  | [], _, _, _ => rfl
  | s :: w, t, t', h => by
    rw [od, od, od_congr w (cj_eqv h), dec_congr (p := Eqv m t [s]) (q := Eqv m t' [s]) ⟨fun z => h.symm.trans z, fun z => h.trans z⟩]
theorem od_append : ∀ (u v t : W), od m (u ++ v) t = xor (od m u t) (od m v (cj u t))
  | [], v, t => by simp [od, cj]
  | s :: u, v, t => by
    have e : cj (s :: u) t = cj u (cj [s] t) := cj_app [s] u t
    rw [List.cons_append, od, od, od_append u v, e, Bool.xor_assoc]
theorem cj_cancel (s : Fin 3) (t : W) : Eqv m (cj [s] (cj [s] t)) t := by
  have h := cj_word (m := m) (t := t) (Eqv.cancel s)
  have e : cj [s, s] t = cj [s] (cj [s] t) := cj_app [s] [s] t
  rw [← e]
  simpa [cj] using h
theorem od_cut (s : Fin 3) (w t : W) : od m (s :: s :: w) t = od m w t := by
  have h1 : decide (Eqv m (cj [s] t) [s]) = decide (Eqv m t [s]) := dec_congr (by
    rw [cj_iff]
    have e : Eqv m ([s] ++ [s] ++ [s].reverse) [s] := (Eqv.cancel s).right [s]
    exact ⟨fun h => h.trans e, fun h => h.trans e.symm⟩)
  rw [od, od, h1, od_congr w (cj_cancel s t)]
  cases decide (Eqv m t [s]) <;> cases od m w t <;> rfl
theorem od_inv : ∀ (u t : W), od m (u ++ u.reverse) t = false
  | [], _ => rfl
  | s :: u, t => by
    have e : s :: u ++ (s :: u).reverse = [s] ++ ((u ++ u.reverse) ++ [s]) := by simp
    rw [e, od_append, od_append, od_inv u]
    have h1 : od m [s] (cj (u ++ u.reverse) (cj [s] t)) = od m [s] (cj [s] t) := by
      refine od_congr _ ?_
      have := cj_word (m := m) (t := cj [s] t) (Eqv.inv_right u)
      simpa [cj] using this
    rw [h1]
    have h2 := od_cut (m := m) s [] t
    have h3 : od m ([s] ++ [s]) t = false := h2
    rw [od_append] at h3
    simpa using h3
/-- parity of a number of marks -/
def xs (f : Nat → Bool) : Nat → Bool
  | 0 => false
  | n + 1 => xor (f 0) (xs (fun k => f (k + 1)) n)
theorem xs_congr : ∀ (n : Nat) {f g : Nat → Bool}, (∀ k, f k = g k) → xs f n = xs g n
  | 0, _, _, _ => rfl
  | n + 1, f, g, h => by rw [xs, xs, h 0, xs_congr n (fun k => h (k + 1))]
theorem xs_add : ∀ (n k : Nat) (f : Nat → Bool), xs f (n + k) = xor (xs f n) (xs (fun i => f (n + i)) k)
  | 0, k, f => by simp [xs]
  | n + 1, k, f => by
    rw [show n + 1 + k = (n + k) + 1 by omega, xs, xs, xs_add n k, Bool.xor_assoc]
    rw [xs_congr k (f := fun i => f (n + i + 1)) (g := fun i => f (n + 1 + i)) (fun i => by rw [show n + i + 1 = n + 1 + i by omega])]
theorem od_alt : ∀ (n : Nat) (i j : Fin 3) (t : W), od m (alt i j n) t = xs (fun k => decide (Eqv m t (alt i j (2 * k + 1)))) n
  | 0, _, _, _ => rfl
  | n + 1, i, j, t => by
    rw [alt, od, xs, od_alt n j i]
    congr 1
    refine xs_congr n (fun k => dec_congr ?_)
    rw [cj_iff]
    have e : [i] ++ alt j i (2 * k + 1) ++ [i].reverse = alt i j (2 * (k + 1) + 1) := by
      have h := alt_snoc i j (2 * k + 2)
      have h2 : nth i j (2 * k + 2) = i := by rw [nth, if_pos (by omega)]
      rw [h2] at h
      rw [show 2 * (k + 1) + 1 = 2 * k + 2 + 1 by omega, h]
      rfl
    rw [e]
theorem alt_add (i j : Fin 3) (n : Nat) : ∀ k : Nat, alt i j (n + k) = alt i j n ++ alt (nth i j n) (nth i j (n + 1)) k := by
  induction n generalizing i j with
  | zero => intro k; simp [alt, nth]
  | succ n ih =>
    intro k
    rw [show n + 1 + k = (n + k) + 1 by omega, alt, ih, alt, nth_succ i j n, nth_succ i j (n + 1)]
    rfl
theorem alt_twice (i j : Fin 3) (n : Nat) : alt i j (n + n) = alt i j n ++ (alt j i n).reverse := by
  rw [alt_add, alt_reverse]
  by_cases h : n % 2 = 0
  · rw [if_pos h, nth, nth, if_pos h, if_neg (by omega)]
  · rw [if_neg h, nth, nth, if_neg h, if_pos (by omega)]
theorem od_turn {i j : Fin 3} {n : Nat} (h : Eqv m (alt i j n) (alt j i n)) (t : W) : od m (alt i j n) t = od m (alt j i n) t := by
  have e0 : Eqv m (alt i j (n + n)) [] := by
    rw [alt_twice]
    exact (h.right _).trans (Eqv.inv_right _)
  have per : ∀ k, Eqv m (alt i j (n + n + k)) (alt i j k) := fun k => by
    rw [alt_add]
    have z : nth i j (n + n) = i := by rw [nth, if_pos (by omega)]
    have z2 : nth i j (n + n + 1) = j := by rw [nth, if_neg (by omega)]
    rw [z, z2]
    exact e0.right _
  have h0 : od m (alt i j (n + n)) t = false := by
    rw [od_alt, xs_add]
    rw [xs_congr n (f := fun k => decide (Eqv m t (alt i j (2 * (n + k) + 1)))) (g := fun k => decide (Eqv m t (alt i j (2 * k + 1)))) (fun k => dec_congr (by
      have p := per (2 * k + 1)
      rw [show n + n + (2 * k + 1) = 2 * (n + k) + 1 by omega] at p
      exact ⟨fun z => z.trans p, fun z => z.trans p.symm⟩))]
    simp
  rw [alt_twice, od_append, od_congr _ (cj_word h)] at h0
  have h1 := od_inv (m := m) (alt j i n) t
  rw [od_append] at h1
  revert h0 h1
  cases od m (alt i j n) t <;> cases od m (alt j i n) t <;> cases od m (alt j i n).reverse (cj (alt j i n) t) <;> simp
theorem od_step {u v : W} (h : Step m u v) (t : W) : od m u t = od m v t := by
  cases h with
  | cut u v i => rw [od_append, od_append, od_cut]
  | turn u v i j h h0 =>
    have e : Eqv m (alt i j (m i j)) (alt j i (m i j)) := by
      have := Eqv.step (Step.turn (m := m) [] [] i j h h0)
      simpa using this
    rw [od_append, od_append, od_append, od_append, od_turn e, od_congr v (cj_word e)]
/-- the parity belongs to the tile -/
theorem od_eqv {u v : W} (h : Eqv m u v) (t : W) : od m u t = od m v t := by
  induction h with
  | refl u => rfl
  | step h => exact od_step h t
  | symm _ ih => exact ih.symm
  | trans _ _ a b => exact a.trans b
/-- a wall that is crossed an odd number of times stands at some letter -/
theorem od_split : ∀ (w t : W), od m w t = true → ∃ (x y : W) (s : Fin 3), w = x ++ s :: y ∧ Eqv m t (x ++ [s] ++ x.reverse)
  | [], t, h => by cases h
  | s :: w, t, h => by
    rw [od] at h
    by_cases c : Eqv m t [s]
    · exact ⟨[], w, s, rfl, by simpa using c⟩
    · rw [decide_eq_false c, Bool.false_xor] at h
      obtain ⟨x, y, r, rfl, e⟩ := od_split w _ h
      refine ⟨s :: x, y, r, rfl, ?_⟩
      rw [cj_iff] at e
      simpa using e
/-- a wall before a word whose letter it stands at cuts the letter out -/
theorem cut_out {t x y : W} {s : Fin 3} (e : Eqv m t (x ++ [s] ++ x.reverse)) : Eqv m (t ++ (x ++ s :: y)) (x ++ y) := by
  have h1 := e.right (x ++ s :: y)
  have h2 := ((Eqv.inv_left (m := m) x).app (x ++ [s]) (s :: y))
  have h3 := (Eqv.cancel (m := m) s).app x y
  have h4 : Eqv m (x ++ [s] ++ (x.reverse ++ x) ++ s :: y) (x ++ y) := h2.trans (by simpa using h3)
  exact h1.trans (by simpa using h4)
/-- a wall -/
def Wl (m : Fin 3 → Fin 3 → Nat) (t : W) : Prop := ∃ (u : W) (s : Fin 3), Eqv m t (u ++ [s] ++ u.reverse)
theorem Wl.sq {t : W} (h : Wl m t) : Eqv m (t ++ t) [] := by
  obtain ⟨u, s, e⟩ := h
  have h1 := cut_out (y := u.reverse) e
  have h2 : Eqv m (t ++ t) (t ++ (u ++ s :: u.reverse)) := by
    have := e.left t
    simpa using this
  exact h2.trans (h1.trans (Eqv.inv_right u))
theorem Wl.rev {t : W} (h : Wl m t) : Eqv m t.reverse t := by
  obtain ⟨u, s, e⟩ := h
  have h1 := e.rev
  have h2 : (u ++ [s] ++ u.reverse).reverse = u ++ [s] ++ u.reverse := by simp
  rw [h2] at h1
  exact h1.trans e.symm
theorem Wl.od {t : W} (h : Wl m t) : od m t t = true := by
  obtain ⟨u, s, e⟩ := h
  rw [od_eqv e, List.append_assoc, od_append, od_append]
  have k : Eqv m (cj u t) [s] := cj_iff.2 e
  have h1 : Cox.od m [s] (cj u t) = true := by
    show xor (decide (Eqv m (cj u t) [s])) false = true
    rw [decide_eq_true k]
    rfl
  have h2 : Cox.od m u.reverse (cj [s] (cj u t)) = Cox.od m u.reverse (cj u t) := od_congr _ ((cj_iff.2 (by
    have := (Eqv.cancel (m := m) s).right [s]
    exact k.trans this.symm)).trans k.symm)
  rw [h1, h2]
  have h3 := od_inv (m := m) u t
  rw [od_append] at h3
  revert h3
  cases Cox.od m u t <;> cases Cox.od m u.reverse (cj u t) <;> simp
theorem od_shorter {w t : W} (h : od m w t = true) : ln m (t ++ w) < ln m w := by
  obtain ⟨r, hr, rr⟩ := red_ex (m := m) w
  rw [od_eqv hr] at h
  obtain ⟨x, y, s, rfl, e⟩ := od_split r t h
  rw [ln_eqv (hr.left t), ln_eqv (cut_out e), ln_eqv hr, rr]
  have := ln_self (m := m) (x ++ y)
  simp only [List.length_append, List.length_cons] at *
  omega
/-- a wall parts a tile from the first one exactly if it is crossed an odd number of times -/
theorem od_iff {t : W} (h : Wl m t) (w : W) : od m w t = true ↔ ln m (t ++ w) < ln m w := by
  refine ⟨od_shorter, fun l => ?_⟩
  cases c : od m w t with
  | true => rfl
  | false =>
    exfalso
    have h1 : od m (t ++ w) t = true := by
      rw [od_append, h.od]
      have k : Eqv m (cj t t) t := (cj_iff.2 (by
        have a := (Eqv.inv_right (m := m) t).left t
        rw [List.append_nil] at a
        simpa using a.symm))
      rw [od_congr w k, c]
      rfl
    have h2 := od_shorter h1
    have e : Eqv m (t ++ (t ++ w)) w := by
      have := h.sq.right w
      simpa using this
    rw [ln_eqv e] at h2
    omega
/-- the walls on the way between two tiles -/
theorem od_between {t : W} (u v : W) : od m (u.reverse ++ v) (cj u t) = xor (od m u t) (od m v t) := by
  rw [od_append]
  have h1 := od_inv (m := m) u t
  rw [od_append] at h1
  have k : Eqv m (cj u.reverse (cj u t)) t := by
    have := cj_word (m := m) (t := t) (Eqv.inv_right u)
    rw [cj_app] at this
    simpa [cj] using this
  rw [od_congr v k]
  revert h1
  cases od m u t <;> cases od m u.reverse (cj u t) <;> simp
/-- the word of a wall: a half, a letter, the half backwards -/
theorem wall_mid {t r : W} (h : Wl m t) (e : Eqv m t r) (rr : Red m r) : ∃ (x y : W) (s : Fin 3), r = x ++ s :: y ∧ x.length = y.length ∧ Eqv m x.reverse y := by
  have h1 := h.od
  rw [od_eqv e] at h1
  obtain ⟨x, y, s, rfl, k⟩ := od_split r t h1
  have k2 : Eqv m (x ++ y) [] := ((e.symm.left t).trans h.sq |> fun z => (cut_out k).symm.trans z)
  have k3 : Eqv m x.reverse y := by
    have a := k2.left x.reverse
    have b := (Eqv.inv_left (m := m) x).right y
    rw [List.append_nil] at a
    rw [List.append_assoc] at b
    exact a.symm.trans b
  refine ⟨x, y, s, rfl, ?_, k3⟩
  have r1 := rr.part
  have r2 : Red m y := (Red.part (u := [s]) (v := y) r1.2).2
  have := ln_eqv k3
  rw [ln_reverse, r1.1, r2] at this
  exact this
theorem wall_of_mid {r x y : W} {s : Fin 3} (e : r = x ++ s :: y) (k : Eqv m x.reverse y) : Wl m r := ⟨x, s, by
  have := (k.symm.left (x ++ [s]))
  rw [e]
  simpa using this⟩
end Cox

/-! The tiles around a corner: their lengths, and that they are different. -/
namespace Cox
variable {m : Fin 3 → Fin 3 → Nat}
section
variable {c : Fin 3 → Fin 3 → Re}
theorem coset (O : Ord m c) {v : W} {s t : Fin 3} (hst : s ≠ t) (hs : ln m (v ++ [s]) = ln m v + 1) (ht : ln m (v ++ [t]) = ln m v + 1) : ∀ n, (m s t = 0 ∨ n ≤ m s t) → ln m (v ++ (alt t s n).reverse) = ln m v + n ∧ ln m (v ++ (alt s t n).reverse) = ln m v + n := by
  intro n
  induction n with
  | zero => intro _; simp [alt]
  | succ n ih =>
    intro hn
    obtain ⟨i1, i2⟩ := ih (hn.imp id (by omega))
    have z : m s t = 0 ∨ n < m s t := hn.imp id (by omega)
    have z' : m t s = 0 ∨ n < m t s := by rw [O.msym t s]; exact z
    constructor
    · have b := big_two O hst.symm z' (root_pos O _ v t (Nat.le_refl _) ht) (root_pos O _ v s (Nat.le_refl _) hs)
      have r := actl_reverse (c := c) (alt s t n).reverse (e t)
      rw [List.reverse_reverse] at r
      rw [r, ← actw_append] at b
      have g := grows O b
      have e : (alt t s (n + 1)).reverse = (alt s t n).reverse ++ [t] := by
        show (t :: alt s t n).reverse = _
        rw [List.reverse_cons]
      rw [e, ← List.append_assoc, g, i2]
      omega
    · have b := big_two O hst z (root_pos O _ v s (Nat.le_refl _) hs) (root_pos O _ v t (Nat.le_refl _) ht)
      have r := actl_reverse (c := c) (alt t s n).reverse (e s)
      rw [List.reverse_reverse] at r
      rw [r, ← actw_append] at b
      have g := grows O b
      have e : (alt s t (n + 1)).reverse = (alt t s n).reverse ++ [s] := by
        show (s :: alt t s n).reverse = _
        rw [List.reverse_cons]
      rw [e, ← List.append_assoc, g, i1]
      omega
/-- the same for words that begin with one of the two letters -/
theorem coset2 (O : Ord m c) {v : W} {s t : Fin 3} (hst : s ≠ t) (hs : ln m (v ++ [s]) = ln m v + 1) (ht : ln m (v ++ [t]) = ln m v + 1) (n : Nat) (hn : m s t = 0 ∨ n ≤ m s t) : ln m (v ++ alt s t n) = ln m v + n ∧ ln m (v ++ alt t s n) = ln m v + n := by
  obtain ⟨h1, h2⟩ := coset O hst hs ht n hn
  rw [alt_reverse] at h1 h2
  by_cases c : n % 2 = 0
  · rw [if_pos c] at h1 h2
    exact ⟨h1, h2⟩
  · rw [if_neg c] at h1 h2
    exact ⟨h2, h1⟩
theorem alt_full (ms : ∀ i j, m i j = m j i) {s t : Fin 3} (hst : s ≠ t) (h0 : m s t ≠ 0) : Eqv m (alt s t (m s t + m s t)) [] := by
  rw [alt_twice]
  have h : Eqv m (alt s t (m s t)) (alt t s (m s t)) := by
    have := (Turn1.eqv (turn_rev ms hst h0 [])).rev
    simpa using this
  exact (h.right _).trans (Eqv.inv_right _)
theorem alt_sq (ms : ∀ i j, m i j = m j i) {s t : Fin 3} (hst : s ≠ t) (h0 : m s t ≠ 0) : Eqv m (alt s t (m s t) ++ alt s t (m s t)) [] := by
  have h : Eqv m (alt s t (m s t)) (alt t s (m s t)) := by
    have := (Turn1.eqv (turn_rev ms hst h0 [])).rev
    simpa using this
  have r : Eqv m (alt s t (m s t)) (alt s t (m s t)).reverse := by
    rw [alt_reverse]
    by_cases c : m s t % 2 = 0
    · rw [if_pos c]; exact h
    · rw [if_neg c]; exact .refl _
  exact (r.left _).trans (Eqv.inv_right _)
theorem nth_two (s t : Fin 3) (k : Nat) : (nth s t k = s ∧ nth s t (k + 1) = t) ∨ (nth s t k = t ∧ nth s t (k + 1) = s) := by
  rw [nth_succ]
  unfold nth
  by_cases h : k % 2 = 0
  · rw [if_pos h, if_pos h]; exact .inl ⟨rfl, rfl⟩
  · rw [if_neg h, if_neg h]; exact .inr ⟨rfl, rfl⟩
/-- a short or long part of a full turn is no rest -/
theorem alt_ne (O : Ord m c) {s t : Fin 3} (hst : s ≠ t) (h0 : m s t ≠ 0) {d : Nat} (d0 : 0 < d) (d1 : d < m s t + m s t) : ¬ Eqv m (alt s t d) [] := by
  have l0 : ln m ([] : W) = 0 := by
    have := ln_self (m := m) []
    rw [List.length_nil] at this
    omega
  have one : ∀ x : Fin 3, ln m ([] ++ [x]) = ln m ([] : W) + 1 := fun x => by
    have := ln_snoc (m := m) [] x
    omega
  have sh : ∀ n, n ≤ m s t → ln m (alt s t n) = n ∧ ln m (alt t s n) = n := fun n hn => by
    have h := coset2 O (v := []) hst (one s) (one t) n (.inr hn)
    rw [l0, Nat.zero_add, List.nil_append, List.nil_append] at h
    exact h
  intro h
  rcases Nat.lt_or_ge (m s t) d with c1 | c1
  · have f := alt_full O.msym hst h0
    rw [show m s t + m s t = d + (m s t + m s t - d) by omega, alt_add] at f
    have f2 : Eqv m (alt (nth s t d) (nth s t (d + 1)) (m s t + m s t - d)) [] := ((h.right (alt (nth s t d) (nth s t (d + 1)) (m s t + m s t - d))).symm).trans f
    have e := ln_eqv f2
    obtain ⟨q1, q2⟩ := sh (m s t + m s t - d) (by omega)
    rcases nth_two s t d with ⟨a, b⟩ | ⟨a, b⟩
    · rw [a, b, q1, l0] at e; omega
    · rw [a, b, q2, l0] at e; omega
  · have e := ln_eqv h
    rw [(sh d c1).1, l0] at e
    omega
theorem cancel_left {p q : W} (h : Eqv m (p ++ q) p) : Eqv m q [] := by
  have h1 := h.left p.reverse
  have h2 : Eqv m (p.reverse ++ (p ++ q)) q := by
    have := (Eqv.inv_left (m := m) p).right q
    simpa using this
  exact h2.symm.trans (h1.trans (Eqv.inv_left p))
theorem turn_differ (O : Ord m c) {s t : Fin 3} (hst : s ≠ t) (h0 : m s t ≠ 0) (u : W) {j k : Nat} (hjk : j < k) (hk : k < m s t + m s t) : ¬ Eqv m (u ++ alt s t k) (u ++ alt s t j) := by
  intro h
  rw [show k = j + (k - j) by omega, alt_add, ← List.append_assoc] at h
  have h1 := cancel_left h
  rcases nth_two s t j with ⟨a, b⟩ | ⟨a, b⟩
  · rw [a, b] at h1
    exact alt_ne O hst h0 (by omega) (by omega) h1
  · rw [a, b] at h1
    exact alt_ne O hst.symm (by rw [O.msym t s]; exact h0) (by omega) (by rw [O.msym t s]; omega) h1
theorem min_ex (g : Nat → Nat) : ∀ n, 0 < n → ∃ k, k < n ∧ ∀ j, j < n → g k ≤ g j
  | 0, h => absurd h (by omega)
  | 1, _ => ⟨0, by omega, fun j hj => by rw [show j = 0 by omega]; omega⟩
  | n + 2, _ => by
    obtain ⟨k, hk, h⟩ := min_ex g (n + 1) (by omega)
    by_cases c : g k ≤ g (n + 1)
    · refine ⟨k, by omega, fun j hj => ?_⟩
      rcases Nat.lt_or_ge j (n + 1) with h1 | h1
      · exact h j h1
      · rw [show j = n + 1 by omega]; exact c
    · refine ⟨n + 1, by omega, fun j hj => ?_⟩
      rcases Nat.lt_or_ge j (n + 1) with h1 | h1
      · have := h j h1; omega
      · rw [show j = n + 1 by omega]; omega
theorem turn_per (O : Ord m c) {s t : Fin 3} (hst : s ≠ t) (h0 : m s t ≠ 0) (u : W) (k : Nat) : Eqv m (u ++ alt s t (k + (m s t + m s t))) (u ++ alt s t k) := by
  rw [alt_add, ← List.append_assoc]
  have f : Eqv m (alt (nth s t k) (nth s t (k + 1)) (m s t + m s t)) [] := by
    rcases nth_two s t k with ⟨a, b⟩ | ⟨a, b⟩
    · rw [a, b]; exact alt_full O.msym hst h0
    · rw [a, b]
      have := alt_full O.msym hst.symm (by rw [O.msym t s]; exact h0)
      rw [O.msym t s] at this
      exact this
  have := f.left (u ++ alt s t k)
  rw [List.append_nil] at this
  exact this
/-- the lengths around a corner -/
theorem around_len (O : Ord m c) {s t : Fin 3} (hst : s ≠ t) (h0 : m s t ≠ 0) (u : W) : ∃ K L0, K < m s t + m s t ∧ ∀ n, n < m s t + m s t → ln m (u ++ alt s t (K + n)) = L0 + (if n ≤ m s t then n else m s t + m s t - n) := by
  obtain ⟨k0, hk0, hmin⟩ := min_ex (fun k => ln m (u ++ alt s t k)) (m s t + m s t) (by omega)
  have per := fun k => ln_eqv (turn_per O hst h0 u k)
  have hmin1 : ln m (u ++ alt s t k0) ≤ ln m (u ++ alt s t (k0 + 1)) := by
    rcases Nat.lt_or_ge (k0 + 1) (m s t + m s t) with h | h
    · exact hmin _ h
    · have e : k0 + 1 = 0 + (m s t + m s t) := by omega
      rw [e, per 0]
      exact hmin 0 (by omega)
  have hmin2 : ln m (u ++ alt s t k0) ≤ ln m (u ++ alt s t (k0 + (m s t + m s t) - 1)) := by
    rcases Nat.eq_zero_or_pos k0 with h | h
    · rw [h, Nat.zero_add]
      have := hmin (m s t + m s t - 1) (by omega)
      rw [h] at this
      exact this
    · have e : k0 + (m s t + m s t) - 1 = (k0 - 1) + (m s t + m s t) := by omega
      rw [e, per]
      exact hmin _ (by omega)
  refine ⟨k0, ln m (u ++ alt s t k0), hk0, fun n hn => ?_⟩
  have sn : ∀ k, ln m (u ++ alt s t k ++ [nth s t k]) = ln m (u ++ alt s t (k + 1)) := fun k => by rw [List.append_assoc, ← alt_snoc]
  have hs : ln m (u ++ alt s t k0 ++ [nth s t k0]) = ln m (u ++ alt s t k0) + 1 := by
    have h1 := ln_snoc (m := m) (u ++ alt s t k0) (nth s t k0)
    have h2 := sn k0
    omega
  have ht : ln m (u ++ alt s t k0 ++ [nth s t (k0 + 1)]) = ln m (u ++ alt s t k0) + 1 := by
    have h1 := ln_snoc (m := m) (u ++ alt s t k0) (nth s t (k0 + 1))
    obtain ⟨q, hq⟩ : ∃ q, k0 + (m s t + m s t) = q + 1 := ⟨k0 + (m s t + m s t) - 1, by omega⟩
    have e1 := (turn_per O hst h0 u k0)
    rw [hq, alt_snoc, ← List.append_assoc] at e1
    have en : nth s t q = nth s t (k0 + 1) := by
      unfold nth
      by_cases h : q % 2 = 0
      · rw [if_pos h, if_pos (by omega)]
      · rw [if_neg h, if_neg (by omega)]
    rw [en] at e1
    have e2 : Eqv m (u ++ alt s t k0 ++ [nth s t (k0 + 1)]) (u ++ alt s t q) := by
      have h2 := e1.symm.right [nth s t (k0 + 1)]
      have h3 : Eqv m (u ++ alt s t q ++ [nth s t (k0 + 1)] ++ [nth s t (k0 + 1)]) (u ++ alt s t q) := by
        have := Eqv.inv_right (m := m) [nth s t (k0 + 1)]
        have := this.left (u ++ alt s t q)
        simpa using this
      exact h2.trans h3
    have e3 := ln_eqv e2
    rw [hq, Nat.add_sub_cancel] at hmin2
    omega
  have ne : nth s t k0 ≠ nth s t (k0 + 1) := by
    rcases nth_two s t k0 with ⟨a, b⟩ | ⟨a, b⟩
    · rw [a, b]; exact hst
    · rw [a, b]; exact hst.symm
  have em : m (nth s t k0) (nth s t (k0 + 1)) = m s t := by
    rcases nth_two s t k0 with ⟨a, b⟩ | ⟨a, b⟩
    · rw [a, b]
    · rw [a, b, O.msym t s]
  rw [alt_add, ← List.append_assoc]
  by_cases c1 : n ≤ m s t
  · rw [if_pos c1]
    exact (coset2 O ne hs ht n (.inr (by rw [em]; exact c1))).1
  · rw [if_neg c1]
    have f := alt_full O.msym ne (by rw [em]; exact h0)
    rw [em, show m s t + m s t = n + (m s t + m s t - n) by omega, alt_add] at f
    have e : Eqv m (alt (nth s t k0) (nth s t (k0 + 1)) n) (alt (nth (nth s t k0) (nth s t (k0 + 1)) n) (nth (nth s t k0) (nth s t (k0 + 1)) (n + 1)) (m s t + m s t - n)).reverse := by
      have h1 := f.right (alt (nth (nth s t k0) (nth s t (k0 + 1)) n) (nth (nth s t k0) (nth s t (k0 + 1)) (n + 1)) (m s t + m s t - n)).reverse
      have h2 := (Eqv.inv_right (m := m) (alt (nth (nth s t k0) (nth s t (k0 + 1)) n) (nth (nth s t k0) (nth s t (k0 + 1)) (n + 1)) (m s t + m s t - n))).left (alt (nth s t k0) (nth s t (k0 + 1)) n)
      rw [List.append_nil, ← List.append_assoc] at h2
      rw [List.nil_append] at h1
      exact h2.symm.trans h1
    rw [ln_eqv (e.left (u ++ alt s t k0))]
    obtain ⟨q1, q2⟩ := coset O ne hs ht (m s t + m s t - n) (.inr (by rw [em]; omega))
    rcases nth_two (nth s t k0) (nth s t (k0 + 1)) n with ⟨a, b⟩ | ⟨a, b⟩
    · rw [a, b]; exact q2
    · rw [a, b]; exact q1
end
theorem count_le_one {g : Nat → Int} {x : Int} : ∀ {l : List Nat}, l.Nodup → (∀ i ∈ l, ∀ j ∈ l, g i = x → g j = x → i = j) → (l.map g).count x ≤ 1
  | [], _, _ => by simp
  | i :: l, nd, h => by
    rw [List.nodup_cons] at nd
    rw [List.map_cons, List.count_cons]
    by_cases c : g i = x
    · have z : (l.map g).count x = 0 := by
        rw [List.count_eq_zero]
        intro hm
        obtain ⟨j, hj, e⟩ := List.mem_map.mp hm
        exact nd.1 (by rw [h i List.mem_cons_self j (List.mem_cons_of_mem _ hj) c e]; exact hj)
      rw [z, if_pos (by simpa using c)]
      exact Nat.le_refl _
    · rw [if_neg (by simpa using c)]
      have := count_le_one nd.2 fun i hi j hj => h i (List.mem_cons_of_mem _ hi) j (List.mem_cons_of_mem _ hj)
      omega
/-- the least and the greatest of a sorted list that occur once -/
theorem sorted_ends {S ls : List Int} {lo hi : Int} (pm : S.Perm ls) (pw : S.Pairwise (· ≤ ·)) (hlo : lo ∈ ls) (hhi : hi ∈ ls) (b : ∀ x ∈ ls, lo ≤ x ∧ x ≤ hi) (c1 : ls.count lo ≤ 1) (c2 : ls.count hi ≤ 1) (n2 : 2 ≤ ls.length) :
    ∃ x1 y1 : Int, S[0]? = some lo ∧ S[1]? = some x1 ∧ lo ≠ x1 ∧ S[S.length - 1]? = some hi ∧ S[S.length - 2]? = some y1 ∧ y1 ≠ hi := by
  have ln' := pm.length_eq
  have g0 : 0 < S.length := by omega
  have g1 : 1 < S.length := by omega
  have get_le : ∀ i j (hi : i < S.length) (hj : j < S.length), i ≤ j → S[i] ≤ S[j] := fun i j hi hj hij => by
    rcases Nat.eq_or_lt_of_le hij with rfl | h
    · exact Int.le_refl _
    · exact List.pairwise_iff_getElem.mp pw i j hi hj h
  have mem_b : ∀ i (h : i < S.length), lo ≤ S[i] ∧ S[i] ≤ hi := fun i h => b _ (pm.mem_iff.mp (List.getElem_mem h))
  obtain ⟨i, hi', ei⟩ := List.mem_iff_getElem.mp (pm.mem_iff.mpr hlo)
  obtain ⟨j, hj', ej⟩ := List.mem_iff_getElem.mp (pm.mem_iff.mpr hhi)
  have e0 : S[0] = lo := by
    have h1 := get_le 0 i g0 hi' (Nat.zero_le _)
    have h2 := (mem_b 0 g0).1
    omega
  have eN : S[S.length - 1] = hi := by
    have h1 := get_le j (S.length - 1) hj' (by omega) (by omega)
    have h2 := (mem_b (S.length - 1) (by omega)).2
    omega
  have two : ∀ (x : Int) (p q : Nat) (hp : p < S.length) (hq : q < S.length), p < q → S[p] = x → S[q] = x → 2 ≤ S.count x := fun x p q hp hq hpq h1 h2 => by
    have d1 := List.take_append_drop q S
    have m1 : x ∈ S.take q := List.mem_iff_getElem.mpr ⟨p, by rw [List.length_take]; omega, by rw [List.getElem_take]; exact h1⟩
    have m2 : x ∈ S.drop q := by
      rw [List.drop_eq_getElem_cons hq, h2]
      exact List.mem_cons_self
    rw [← d1, List.count_append]
    have := List.count_pos_iff.mpr m1
    have := List.count_pos_iff.mpr m2
    omega
  refine ⟨S[1], S[S.length - 2], by rw [List.getElem?_eq_getElem g0, e0], List.getElem?_eq_getElem g1, fun z => ?_, by rw [List.getElem?_eq_getElem (by omega), eN], List.getElem?_eq_getElem (by omega), fun z => ?_⟩
  · have := two lo 0 1 g0 g1 (by omega) e0 z.symm
    rw [pm.count_eq] at this
    omega
  · have := two hi (S.length - 2) (S.length - 1) (by omega) (by omega) (by omega) z eN
    rw [pm.count_eq] at this
    omega
theorem corner_sorted {c : Fin 3 → Fin 3 → Re} (O : Ord m c) {s t : Fin 3} (hst : s ≠ t) (h0 : m s t ≠ 0) (u : W) {S : List Int} (pw : S.Pairwise (· ≤ ·))
    (pm : S.Perm ((List.range (m s t + m s t)).map fun k => (ln m (u ++ alt s t k) : Int))) : ∃ lo x1 y1 : Int, S[0]? = some lo ∧ S[1]? = some x1 ∧ lo ≠ x1 ∧ S[S.length - 1]? = some (lo + (m s t : Nat)) ∧ S[S.length - 2]? = some y1 ∧ y1 ≠ lo + (m s t : Nat) := by
  obtain ⟨K, L0, hK, hL⟩ := around_len O hst h0 u
  have per := fun k => ln_eqv (turn_per O hst h0 u k)
  have at' : ∀ k, k < m s t + m s t → ∃ n, n < m s t + m s t ∧ (k = K + n ∨ k + (m s t + m s t) = K + n) ∧ ln m (u ++ alt s t k) = L0 + (if n ≤ m s t then n else m s t + m s t - n) := fun k hk => by
    rcases Nat.lt_or_ge k K with h | h
    · refine ⟨k + (m s t + m s t) - K, by omega, .inr (by omega), ?_⟩
      have e := hL (k + (m s t + m s t) - K) (by omega)
      rw [show K + (k + (m s t + m s t) - K) = k + (m s t + m s t) by omega, per k] at e
      exact e
    · refine ⟨k - K, by omega, .inl (by omega), ?_⟩
      rw [← hL (k - K) (by omega), show K + (k - K) = k by omega]
  have bnd : ∀ n, n < m s t + m s t → (if n ≤ m s t then n else m s t + m s t - n) ≤ m s t := fun n hn => by
    split <;> omega
  have mem : ∀ n, n < m s t + m s t → ∃ k, k < m s t + m s t ∧ ln m (u ++ alt s t k) = L0 + (if n ≤ m s t then n else m s t + m s t - n) := fun n hn => by
    rcases Nat.lt_or_ge (K + n) (m s t + m s t) with h | h
    · exact ⟨K + n, h, hL n hn⟩
    · refine ⟨K + n - (m s t + m s t), by omega, ?_⟩
      rw [← per, show K + n - (m s t + m s t) + (m s t + m s t) = K + n by omega, hL n hn]
  have hm1 : 0 < m s t := Nat.pos_of_ne_zero h0
  refine (fun key => ⟨_, key⟩) (sorted_ends (lo := (L0 : Int)) (hi := (L0 : Int) + (m s t : Nat)) pm pw ?_ ?_ ?_ ?_ ?_ ?_)
  · obtain ⟨k, hk, e⟩ := mem 0 (by omega)
    rw [if_pos (Nat.zero_le _), Nat.add_zero] at e
    exact List.mem_map.mpr ⟨k, List.mem_range.mpr hk, by rw [e]⟩
  · obtain ⟨k, hk, e⟩ := mem (m s t) (by omega)
    rw [if_pos (Nat.le_refl _)] at e
    exact List.mem_map.mpr ⟨k, List.mem_range.mpr hk, by rw [e]; omega⟩
  · intro x hx
    obtain ⟨k, hk, rfl⟩ := List.mem_map.mp hx
    obtain ⟨n, hn, _, e⟩ := at' k (List.mem_range.mp hk)
    have := bnd n hn
    omega
  · refine count_le_one List.nodup_range fun i hi j hj e1 e2 => ?_
    obtain ⟨n, hn, q1, f1⟩ := at' i (List.mem_range.mp hi)
    obtain ⟨n', hn', q2, f2⟩ := at' j (List.mem_range.mp hj)
    have hi := List.mem_range.mp hi
    have hj := List.mem_range.mp hj
    have z1 : n = 0 := by
      by_cases c : n ≤ m s t
      · rw [if_pos c] at f1; omega
      · rw [if_neg c] at f1; omega
    have z2 : n' = 0 := by
      by_cases c : n' ≤ m s t
      · rw [if_pos c] at f2; omega
      · rw [if_neg c] at f2; omega
    omega
  · refine count_le_one List.nodup_range fun i hi j hj e1 e2 => ?_
    obtain ⟨n, hn, q1, f1⟩ := at' i (List.mem_range.mp hi)
    obtain ⟨n', hn', q2, f2⟩ := at' j (List.mem_range.mp hj)
    have hi := List.mem_range.mp hi
    have hj := List.mem_range.mp hj
    have z1 : n = m s t := by
      by_cases c : n ≤ m s t
      · rw [if_pos c] at f1; omega
      · rw [if_neg c] at f1; omega
    have z2 : n' = m s t := by
      by_cases c : n' ≤ m s t
      · rw [if_pos c] at f2; omega
      · rw [if_neg c] at f2; omega
    omega
  · rw [List.length_map, List.length_range]
    omega
end Cox

/-! The program's roots, by integers: how wrong they are, what the signs of their sums tell; the letter that is left out. -/
namespace Cox
open Lean.Grind
section
variable {m : Fin 3 → Fin 3 → Nat}
/-- the first letter of a word is the one that is left out -/
theorem left_first {x s : Fin 3} {v : W} (r : Red m v) (hv : ln m (v ++ [s]) = ln m v + 1) (hx : ln m (x :: v) = ln m (x :: (v ++ [s])) + 1) : Eqv m (x :: (v ++ [s])) v := by
  have w : Wl m (x :: v ++ [s] ++ (x :: v).reverse) := ⟨x :: v, s, .refl _⟩
  have e : Eqv m (x :: v ++ [s] ++ (x :: v).reverse ++ (x :: v)) (x :: v ++ [s]) := by
    have := (Eqv.inv_left (m := m) (x :: v)).left (x :: v ++ [s])
    rw [List.append_nil] at this
    simpa using this
  have o : od m (x :: v) (x :: v ++ [s] ++ (x :: v).reverse) = true := by
    rw [od_iff w, ln_eqv e]
    show ln m (x :: (v ++ [s])) < _
    omega
  obtain ⟨p, q, r0, e1, e2⟩ := od_split _ _ o
  have c := cut_out (y := q) e2
  rw [← e1] at c
  have k : Eqv m (x :: (v ++ [s])) (p ++ q) := e.symm.trans c
  cases p with
  | nil =>
    injection e1 with _ e3
    subst e3
    exact k
  | cons a p =>
    injection e1 with e4 e3
    subst e4
    exfalso
    have k2 : Eqv m (v ++ [s]) (p ++ q) := by
      have h := k.left [x]
      have h1 : Eqv m ([x] ++ (x :: (v ++ [s]))) (v ++ [s]) := .step (.cut [] (v ++ [s]) x)
      have h2 : Eqv m ([x] ++ (x :: p ++ q)) (p ++ q) := .step (.cut [] (p ++ q) x)
      exact h1.symm.trans (h.trans h2)
    have l1 := ln_eqv k2
    have l2 := ln_self (m := m) (p ++ q)
    have l3 : v.length = p.length + q.length + 1 := by rw [e3]; simp; omega
    have r : ln m v = v.length := r
    rw [List.length_append] at l2
    omega
end
/-! the same at the rational numbers and at the integers -/
section
variable {R : Type} [CommRing R]
theorem act_self2 {c : Fin 3 → Fin 3 → R} (h2 : ∀ i, c i i = -2) (s : Fin 3) : act c s (e s) = lc (-1) (e s) 0 (e s) := by
  have h2 := h2 s
  funext k
  unfold act bump lc
  have d : dot c s (e s) = c s s := by
    unfold dot e
    have h3 : s = 0 ∨ s = 1 ∨ s = 2 := by
      rcases s with ⟨s, hs⟩
      have : s = 0 ∨ s = 1 ∨ s = 2 := by omega
      rcases this with rfl | rfl | rfl
      · exact .inl rfl
      · exact .inr (.inl rfl)
      · exact .inr (.inr rfl)
    rcases h3 with rfl | rfl | rfl <;> simp <;> grind
  rw [d, h2]
  unfold e
  by_cases h : k = s
  · simp only [if_pos h]; grind
  · simp only [if_neg h]; grind
theorem act_other2 {c : Fin 3 → Fin 3 → R} {i j : Fin 3} (hij : i ≠ j) : act c i (e j) = lc 1 (e j) (c i j) (e i) := by
  funext k
  unfold act bump lc
  have d : dot c i (e j) = c i j := by
    unfold dot e
    have h3 : j = 0 ∨ j = 1 ∨ j = 2 := by
      rcases j with ⟨j, hj⟩
      have : j = 0 ∨ j = 1 ∨ j = 2 := by omega
      rcases this with rfl | rfl | rfl
      · exact .inl rfl
      · exact .inr (.inl rfl)
      · exact .inr (.inr rfl)
    rcases h3 with rfl | rfl | rfl <;> simp <;> grind
  rw [d]
  unfold e
  by_cases h : k = i
  · simp only [if_pos h]; grind
  · simp only [if_neg h]; grind
theorem depG_root2 {c : Fin 3 → Fin 3 → R} (h2 : ∀ i, c i i = -2) : ∀ (w : W) (j : Fin 3), depG c w j = sumv (actw c w.reverse (e j))
  | [], j => (sumv_e j).symm
  | i :: w, j => by
    show stepG c i (depG c w) j = _
    rw [List.reverse_cons, actw_append]
    show _ = sumv (actw c w.reverse (act c i (e j)))
    unfold stepG
    by_cases hj : j = i
    · subst hj
      rw [if_pos rfl, act_self2 h2, actw_lc, sumv_lc, depG_root2 h2 w j]
      grind
    · rw [if_neg hj, act_other2 (fun z => hj z.symm), actw_lc, sumv_lc, depG_root2 h2 w j, depG_root2 h2 w i]
      grind
end
/-- the sum that makes a root's new coordinate -/
def othI (B : Fin 3 → Fin 3 → Int) (i : Fin 3) (D : Fin 3 → Int) : Int := if i = 0 then B 0 1 * D 1 + B 0 2 * D 2 else if i = 1 then B 1 0 * D 0 + B 1 2 * D 2 else B 2 0 * D 0 + B 2 1 * D 1
def actI (B : Fin 3 → Fin 3 → Int) (T : Int) (i : Fin 3) (D : Fin 3 → Int) : Fin 3 → Int := fun k => if k = i then othI B i D / T - D i else D k
def rootI (B : Fin 3 → Fin 3 → Int) (T : Int) (w : W) (s : Fin 3) : Fin 3 → Int := w.foldr (actI B T) fun k => if k = s then T else 0
def p5 : Nat → Rat
  | 0 => 1
  | k + 1 => 5 * p5 k
theorem p5_ge : ∀ k, 1 ≤ p5 k
  | 0 => Rat.le_refl
  | k + 1 => by
    have := p5_ge k
    show 1 ≤ 5 * p5 k
    grind
/-- two products and one floor -/
theorem err_two {T q b1 b2 D1 D2 c1 c2 d1 d2 M e : Rat} (hT : 0 < T) (h1 : q * T ≤ b1 * D1 + b2 * D2) (h2 : b1 * D1 + b2 * D2 ≤ q * T + T) (hb1 : -2 ≤ b1 - T * c1 ∧ b1 - T * c1 ≤ 2) (hb2 : -2 ≤ b2 - T * c2 ∧ b2 - T * c2 ≤ 2) (hc1 : 0 ≤ c1 ∧ c1 ≤ 2) (hc2 : 0 ≤ c2 ∧ c2 ≤ 2)
    (hd1 : -M ≤ d1 ∧ d1 ≤ M) (hd2 : -M ≤ d2 ∧ d2 ≤ M) (he1 : -e ≤ D1 - T * d1 ∧ D1 - T * d1 ≤ e) (he2 : -e ≤ D2 - T * d2 ∧ D2 - T * d2 ≤ e) (heT : e ≤ T) (e0 : 0 ≤ e) :
    -(4 * e + 4 * M + 5) ≤ q - T * (c1 * d1 + c2 * d2) ∧ q - T * (c1 * d1 + c2 * d2) ≤ 4 * e + 4 * M + 5 := by
  have t0 : 0 ≤ T := by grind
  have p1 := mul_bd (a := c1) (b := D1 - T * d1) (B := 2) (D := e) (by grind) hc1.2 he1.1 he1.2
  have p2 := mul_bd (a := -c1) (b := D1 - T * d1) (B := 2) (D := e) (by grind) (by grind) he1.1 he1.2
  have r1 := mul_bd (a := c2) (b := D2 - T * d2) (B := 2) (D := e) (by grind) hc2.2 he2.1 he2.2
  have r2 := mul_bd (a := -c2) (b := D2 - T * d2) (B := 2) (D := e) (by grind) (by grind) he2.1 he2.2
  have m1 := Rat.mul_nonneg t0 (show 0 ≤ M - d1 by grind)
  have m2 := Rat.mul_nonneg t0 (show 0 ≤ d1 + M by grind)
  have m3 := Rat.mul_nonneg t0 (show 0 ≤ M - d2 by grind)
  have m4 := Rat.mul_nonneg t0 (show 0 ≤ d2 + M by grind)
  have p3 := mul_bd (a := b1 - T * c1) (b := D1) (B := 2) (D := T * M + T) hb1.1 hb1.2 (by grind) (by grind)
  have p4 := mul_bd (a := -(b1 - T * c1)) (b := D1) (B := 2) (D := T * M + T) (by grind) (by grind) (by grind) (by grind)
  have r3 := mul_bd (a := b2 - T * c2) (b := D2) (B := 2) (D := T * M + T) hb2.1 hb2.2 (by grind) (by grind)
  have r4 := mul_bd (a := -(b2 - T * c2)) (b := D2) (B := 2) (D := T * M + T) (by grind) (by grind) (by grind) (by grind)
  have u1 := Rat.mul_nonneg t0 (show 0 ≤ 2 * e - c1 * (D1 - T * d1) by grind)
  have u2 := Rat.mul_nonneg t0 (show 0 ≤ 2 * e - -c1 * (D1 - T * d1) by grind)
  have v1 := Rat.mul_nonneg t0 (show 0 ≤ 2 * e - c2 * (D2 - T * d2) by grind)
  have v2 := Rat.mul_nonneg t0 (show 0 ≤ 2 * e - -c2 * (D2 - T * d2) by grind)
  constructor
  · refine le_of_mul hT ?_
    grind
  · refine le_of_mul hT ?_
    grind
def two' (c : Fin 3 → Fin 3 → Rat) : Fin 3 → Fin 3 → Rat := fun i j => if i = j then -2 else c i j
theorem depG_two (c : Fin 3 → Fin 3 → Rat) : ∀ (w : W) (j : Fin 3), depG (two' c) w j = depG c w j
  | [], _ => rfl
  | i :: w, j => by
    show stepG (two' c) i (depG (two' c) w) j = stepG c i (depG c w) j
    unfold stepG
    by_cases hj : j = i
    · rw [if_pos hj, if_pos hj, depG_two c w i]
    · rw [if_neg hj, if_neg hj, depG_two c w i, depG_two c w j]
      unfold two'
      rw [if_neg (fun z => hj z.symm)]
theorem errR {B : Fin 3 → Fin 3 → Int} {T : Int} {c : Fin 3 → Fin 3 → Rat} (hT : 0 < T) (hn : Near B T c) (K : Nat) (hK : ∀ k, k ≤ K → 2 * ((k : Rat) * p5 k) ≤ (T : Rat)) (s : Fin 3) : ∀ w : W, w.length ≤ K → ∀ k, (-(2 * ((w.length : Rat) * p5 w.length)) ≤ (rootI B T w s k : Rat) - (T : Rat) * actw (two' c) w (e s) k ∧ (rootI B T w s k : Rat) - (T : Rat) * actw (two' c) w (e s) k ≤ 2 * ((w.length : Rat) * p5 w.length)) ∧ (-(p5 w.length) ≤ actw (two' c) w (e s) k ∧ actw (two' c) w (e s) k ≤ p5 w.length)
  | [], _, k => by
    have e1 : rootI B T [] s k = if k = s then T else 0 := rfl
    have e2 : actw (two' c) [] (e s) k = if k = s then 1 else 0 := rfl
    have e3 : p5 ([] : W).length = 1 := rfl
    have e4 : ((([] : W).length : Nat) : Rat) = 0 := rfl
    rw [e1, e2, e3, e4]
    by_cases h : k = s
    · rw [if_pos h, if_pos h]
      grind
    · rw [if_neg h, if_neg h]
      have z : ((0 : Int) : Rat) = 0 := rfl
      rw [z]
      grind
  | i :: w, hw, k => by
    have hw2 : w.length + 1 ≤ K := hw
    have ih := errR hT hn K hK s w (by omega)
    have hTr : (0 : Rat) < (T : Rat) := by
      have : ((0 : Int) : Rat) < (T : Rat) := Rat.intCast_lt_intCast.mpr hT
      exact this
    have p := p5_ge w.length
    have n : (0 : Rat) ≤ (w.length : Rat) := by grind
    have e0 := Rat.mul_nonneg n (show 0 ≤ p5 w.length by grind)
    have eT := hK w.length (by omega)
    have eL : (((i :: w).length : Nat) : Rat) * p5 (i :: w).length = 5 * ((w.length : Rat) * p5 w.length) + 5 * p5 w.length := by
      show ((w.length + 1 : Nat) : Rat) * (5 * p5 w.length) = _
      grind
    have eP : p5 (i :: w).length = 5 * p5 w.length := rfl
    rw [eL, eP]
    have eI : rootI B T (i :: w) s k = actI B T i (rootI B T w s) k := rfl
    have eD : actw (two' c) (i :: w) (e s) k = act (two' c) i (actw (two' c) w (e s)) k := rfl
    rw [eI, eD]
    unfold actI act bump
    by_cases hk : k = i
    · rw [if_pos hk, if_pos hk]
      subst hk
      have key : ∀ (b1 b2 D1 D2 : Int) (c1 c2 d1 d2 : Rat), (-2 ≤ (b1 : Rat) - T * c1 ∧ (b1 : Rat) - T * c1 ≤ 2) → (-2 ≤ (b2 : Rat) - T * c2 ∧ (b2 : Rat) - T * c2 ≤ 2) → (0 ≤ c1 ∧ c1 ≤ 2) → (0 ≤ c2 ∧ c2 ≤ 2) →
          ((-(2 * ((w.length : Rat) * p5 w.length)) ≤ (D1 : Rat) - T * d1 ∧ (D1 : Rat) - T * d1 ≤ 2 * ((w.length : Rat) * p5 w.length)) ∧ (-(p5 w.length) ≤ d1 ∧ d1 ≤ p5 w.length)) →
          ((-(2 * ((w.length : Rat) * p5 w.length)) ≤ (D2 : Rat) - T * d2 ∧ (D2 : Rat) - T * d2 ≤ 2 * ((w.length : Rat) * p5 w.length)) ∧ (-(p5 w.length) ≤ d2 ∧ d2 ≤ p5 w.length)) →
          othI B k (rootI B T w s) = b1 * D1 + b2 * D2 → dot (two' c) k (actw (two' c) w (e s)) = -2 * actw (two' c) w (e s) k + c1 * d1 + c2 * d2 →
          (-(2 * (5 * ((w.length : Rat) * p5 w.length) + 5 * p5 w.length)) ≤ ((othI B k (rootI B T w s) / T - rootI B T w s k : Int) : Rat) - (T : Rat) * (actw (two' c) w (e s) k + dot (two' c) k (actw (two' c) w (e s))) ∧
            ((othI B k (rootI B T w s) / T - rootI B T w s k : Int) : Rat) - (T : Rat) * (actw (two' c) w (e s) k + dot (two' c) k (actw (two' c) w (e s))) ≤ 2 * (5 * ((w.length : Rat) * p5 w.length) + 5 * p5 w.length)) ∧
          (-(5 * p5 w.length) ≤ actw (two' c) w (e s) k + dot (two' c) k (actw (two' c) w (e s)) ∧ actw (two' c) w (e s) k + dot (two' c) k (actw (two' c) w (e s)) ≤ 5 * p5 w.length) := by
        intro b1 b2 D1 D2 c1 c2 d1 d2 hb1 hb2 hc1 hc2 h1 h2 eo ed
        rw [eo, ed]
        have hk := ih k
        have f1 := Int.ediv_mul_le (b1 * D1 + b2 * D2) (show T ≠ 0 by omega)
        have f2 := Int.lt_ediv_add_one_mul_self (b1 * D1 + b2 * D2) hT
        have g1 : (((b1 * D1 + b2 * D2) / T * T : Int) : Rat) ≤ ((b1 * D1 + b2 * D2 : Int) : Rat) := Rat.intCast_le_intCast.mpr f1
        have g2 : ((b1 * D1 + b2 * D2 : Int) : Rat) ≤ ((((b1 * D1 + b2 * D2) / T + 1) * T : Int) : Rat) := Rat.intCast_le_intCast.mpr (by omega)
        rw [Rat.intCast_mul, Rat.intCast_add, Rat.intCast_mul, Rat.intCast_mul] at g1
        rw [Rat.intCast_mul, Rat.intCast_add, Rat.intCast_add, Rat.intCast_mul, Rat.intCast_mul] at g2
        have one : ((1 : Int) : Rat) = 1 := rfl
        rw [one] at g2
        have es := err_two (q := (((b1 * D1 + b2 * D2) / T : Int) : Rat)) hTr g1 (by grind) hb1 hb2 hc1 hc2 h1.2 h2.2 h1.1 h2.1 eT (by grind)
        rw [Rat.intCast_sub]
        have x1 := mul_bd (a := c1) (b := d1) (B := 2) (D := p5 w.length) (by grind) hc1.2 h1.2.1 h1.2.2
        have x2 := mul_bd (a := -c1) (b := d1) (B := 2) (D := p5 w.length) (by grind) (by grind) h1.2.1 h1.2.2
        have y1 := mul_bd (a := c2) (b := d2) (B := 2) (D := p5 w.length) (by grind) hc2.2 h2.2.1 h2.2.2
        have y2 := mul_bd (a := -c2) (b := d2) (B := 2) (D := p5 w.length) (by grind) (by grind) h2.2.1 h2.2.2
        constructor
        · constructor <;> grind
        · constructor <;> grind
      have h3 : k = 0 ∨ k = 1 ∨ k = 2 := by
        rcases k with ⟨k, hk⟩
        have : k = 0 ∨ k = 1 ∨ k = 2 := by omega
        rcases this with rfl | rfl | rfl
        · exact .inl rfl
        · exact .inr (.inl rfl)
        · exact .inr (.inr rfl)
      rcases h3 with rfl | rfl | rfl
      · exact key _ _ _ _ _ _ _ _ (hn.b 0 1 (by decide)) (hn.b 0 2 (by decide)) (hn.c 0 1 (by decide)) (hn.c 0 2 (by decide)) (ih 1) (ih 2) rfl (by unfold dot two'; simp)
      · exact key _ _ _ _ _ _ _ _ (hn.b 1 0 (by decide)) (hn.b 1 2 (by decide)) (hn.c 1 0 (by decide)) (hn.c 1 2 (by decide)) (ih 0) (ih 2) rfl (by unfold dot two'; simp; grind)
      · exact key _ _ _ _ _ _ _ _ (hn.b 2 0 (by decide)) (hn.b 2 1 (by decide)) (hn.c 2 0 (by decide)) (hn.c 2 1 (by decide)) (ih 0) (ih 1) rfl (by unfold dot two'; simp; grind)
    · rw [if_neg hk, if_neg hk]
      have h := ih k
      constructor
      · constructor <;> grind
      · constructor <;> grind
def sumI (D : Fin 3 → Int) : Int := D 0 + D 1 + D 2
/-- the sign of a root's sum tells whether the letter lengthens the word -/
theorem rsigns {m : Fin 3 → Fin 3 → Nat} {B : Fin 3 → Fin 3 → Int} {T : Int} {K L : Nat} (F : Fits m B T K) (hL : ∀ k, k ≤ L → 9 * ((k : Rat) * p5 k) ≤ (T : Rat)) {w : W} (hw : w.length ≤ L) (s : Fin 3) : (ln m (w ++ [s]) = ln m w + 1 → 0 < sumI (rootI B T w s)) ∧ (ln m w = ln m (w ++ [s]) + 1 → sumI (rootI B T w s) < 0) := by
  obtain ⟨c, cR, O, hc, hn⟩ := F.seq
  have hTr : (0 : Rat) < (T : Rat) := by
    have : ((0 : Int) : Rat) < (T : Rat) := Rat.intCast_lt_intCast.mpr F.pos
    exact this
  have k0 := p5_ge w.length
  have n0 : (0 : Rat) ≤ (w.length : Rat) := by grind
  have x0 := Rat.mul_nonneg n0 (show 0 ≤ p5 w.length by grind)
  have rm := hL w.length hw
  have hK : ∀ k, k ≤ L → 2 * ((k : Rat) * p5 k) ≤ (T : Rat) := fun k hk => by
    have h1 := hL k hk
    have h2 := p5_ge k
    have h3 : (0 : Rat) ≤ (k : Rat) := by grind
    have h4 := Rat.mul_nonneg h3 (show 0 ≤ p5 k by grind)
    grind
  have root := depS_of c cR hc w.reverse s
  have flip : ln m (s :: w.reverse) = ln m (w ++ [s]) := by
    rw [← ln_reverse, List.reverse_cons, List.reverse_reverse]
  have flip0 : ln m w.reverse = ln m w := ln_reverse w
  have sums : ((sumI (rootI B T w s) : Int) : Rat) = (rootI B T w s 0 : Rat) + (rootI B T w s 1 : Rat) + (rootI B T w s 2 : Rat) := by
    unfold sumI
    rw [Rat.intCast_add, Rat.intCast_add]
  have deps : ∀ N, depG (fun i j => (c i j).f N) w.reverse s = actw (two' fun i j => (c i j).f N) w (e s) 0 + actw (two' fun i j => (c i j).f N) w (e s) 1 + actw (two' fun i j => (c i j).f N) w (e s) 2 := fun N => by
    rw [← depG_two, depG_root2 (fun i => by unfold two'; rw [if_pos rfl]), List.reverse_reverse]
    rfl
  constructor
  · intro h
    have g := dep_far O (w := w.reverse) (j := s) (by rw [flip, flip0]; exact h)
    rw [root] at g
    obtain ⟨N, hN⟩ := ge_member g
    have q := hN _ rfl
    rw [depS_f, deps N] at q
    have er := errR F.pos (hn N) L hK s w hw
    have e0 := (er 0).1
    have e1 := (er 1).1
    have e2 := (er 2).1
    have sm := sums
    have tq := Rat.mul_nonneg (show 0 ≤ (T : Rat) by grind) (show 0 ≤ 4 * (actw (two' fun i j => (c i j).f N) w (e s) 0 + actw (two' fun i j => (c i j).f N) w (e s) 1 + actw (two' fun i j => (c i j).f N) w (e s) 2) - 3 by grind)
    have r : ((0 : Int) : Rat) < (sumI (rootI B T w s) : Rat) := by
      show (0 : Rat) < _
      rw [sm]
      grind
    exact Rat.intCast_lt_intCast.mp r
  · intro h
    have g := dep_near O (w := w.reverse) (j := s) (by rw [flip, flip0]; exact h)
    rw [root] at g
    have g2 : 1 ≤ Re.of (depS c w.reverse s).neg := by
      have e : Re.of (depS c w.reverse s).neg = -Re.of (depS c w.reverse s) := rfl
      rw [e]
      grind
    obtain ⟨N, hN⟩ := ge_member g2
    have q := hN _ rfl
    have en : (depS c w.reverse s).neg.f N = -(depS c w.reverse s).f N := rfl
    rw [en, depS_f, deps N] at q
    have er := errR F.pos (hn N) L hK s w hw
    have e0 := (er 0).1
    have e1 := (er 1).1
    have e2 := (er 2).1
    have sm := sums
    have tq := Rat.mul_nonneg (show 0 ≤ (T : Rat) by grind) (show 0 ≤ -4 * (actw (two' fun i j => (c i j).f N) w (e s) 0 + actw (two' fun i j => (c i j).f N) w (e s) 1 + actw (two' fun i j => (c i j).f N) w (e s) 2) - 3 by grind)
    have r : (sumI (rootI B T w s) : Rat) < ((0 : Int) : Rat) := by
      show _ < (0 : Rat)
      rw [sm]
      grind
    exact Rat.intCast_lt_intCast.mp r
theorem kp5_mono (k : Nat) : (k : Rat) * p5 k ≤ ((k + 1 : Nat) : Rat) * p5 (k + 1) := by
  have a := p5_ge k
  have n : (0 : Rat) ≤ (k : Rat) := by grind
  have x := Rat.mul_nonneg n (show 0 ≤ p5 k by grind)
  show _ ≤ ((k + 1 : Nat) : Rat) * (5 * p5 k)
  have e : ((k + 1 : Nat) : Rat) * (5 * p5 k) = 5 * ((k : Rat) * p5 k) + 5 * p5 k := by grind
  rw [e]
  grind
theorem kp5_le (k : Nat) : ∀ d, (k : Rat) * p5 k ≤ ((k + d : Nat) : Rat) * p5 (k + d)
  | 0 => Rat.le_refl
  | d + 1 => Rat.le_trans (kp5_le k d) (kp5_mono (k + d))
theorem room5 : ∀ k : Nat, k ≤ 64 → 9 * ((k : Rat) * p5 k) ≤ (((2 : Int) ^ 288 : Int) : Rat) := fun k hk => by
  have h := kp5_le k (64 - k)
  rw [show k + (64 - k) = 64 by omega] at h
  have h2 : 9 * (((64 : Nat) : Rat) * p5 64) ≤ (((2 : Int) ^ 288 : Int) : Rat) := by decide +kernel
  grind
section
variable {m : Fin 3 → Fin 3 → Nat}
/-- the last place whose rest the letter does not lengthen is the one that is left out -/
theorem left_place {w : W} {s : Fin 3} (r : Red m w) {k : Nat} (hk : k < w.length) (h1 : ln m (w.drop k) = ln m (w.drop k ++ [s]) + 1) (h2 : ln m (w.drop (k + 1) ++ [s]) = ln m (w.drop (k + 1)) + 1) : Eqv m (w ++ [s]) (w.take k ++ w.drop (k + 1)) := by
  have e := List.drop_eq_getElem_cons hk
  have t := List.take_append_drop k w
  have r2 : Red m (w.drop (k + 1)) := by
    have r3 := r
    rw [← List.take_append_drop (k + 1) w] at r3
    exact r3.part.2
  rw [e] at h1
  have f := left_first r2 h2 h1
  have g := f.left (w.take k)
  have e3 : w.take k ++ (w[k] :: w.drop (k + 1)) = w := by rw [← e]; exact t
  have e2 : w.take k ++ w[k] :: (w.drop (k + 1) ++ [s]) = w ++ [s] := by
    have x : w.take k ++ w[k] :: (w.drop (k + 1) ++ [s]) = (w.take k ++ (w[k] :: w.drop (k + 1))) ++ [s] := by rw [List.append_assoc, List.cons_append]
    rw [x, e3]
  rw [e2] at g
  exact g
/-- only one place leads there -/
theorem left_unique {w : W} (r : Red m w) {i j : Nat} (hij : i < j) (hj : j < w.length) : ¬ Eqv m (w.take i ++ w.drop (i + 1)) (w.take j ++ w.drop (j + 1)) := by
  intro h
  obtain ⟨a, p, b, q, c, rfl, la, lb⟩ : ∃ (a : W) (p : Fin 3) (b : W) (q : Fin 3) (c : W), w = a ++ p :: (b ++ q :: c) ∧ a.length = i ∧ a.length + 1 + b.length = j := by
    refine ⟨w.take i, w[i]'(by omega), (w.drop (i + 1)).take (j - (i + 1)), w[j], w.drop (j + 1), ?_, by rw [List.length_take]; omega, by rw [List.length_take, List.length_take, List.length_drop]; omega⟩
    have e1 := List.drop_eq_getElem_cons (show i < w.length by omega)
    have e2 := List.drop_eq_getElem_cons hj
    have t1 := List.take_append_drop (j - (i + 1)) (w.drop (i + 1))
    rw [List.drop_drop, show i + 1 + (j - (i + 1)) = j by omega, e2] at t1
    rw [t1, ← e1, List.take_append_drop]
  have d1 : (a ++ p :: (b ++ q :: c)).take i = a := by rw [← la]; simp
  have d2 : (a ++ p :: (b ++ q :: c)).drop (i + 1) = b ++ q :: c := by
    rw [← la, show a ++ p :: (b ++ q :: c) = (a ++ [p]) ++ (b ++ q :: c) by simp, show a.length + 1 = (a ++ [p]).length by simp]
    exact List.drop_left
  have d3 : (a ++ p :: (b ++ q :: c)).take j = a ++ p :: b := by
    rw [← lb, show a ++ p :: (b ++ q :: c) = (a ++ p :: b) ++ (q :: c) by simp, show a.length + 1 + b.length = (a ++ p :: b).length by simp; omega]
    exact List.take_left
  have d4 : (a ++ p :: (b ++ q :: c)).drop (j + 1) = c := by
    rw [← lb, show a ++ p :: (b ++ q :: c) = (a ++ p :: b ++ [q]) ++ c by simp, show a.length + 1 + b.length + 1 = (a ++ p :: b ++ [q]).length by simp; omega]
    exact List.drop_left
  rw [d1, d2, d3, d4] at h
  have h1 : Eqv m (b ++ q :: c) (p :: b ++ c) := by
    have x := h.left a.reverse
    have y1 : Eqv m (a.reverse ++ (a ++ (b ++ q :: c))) (b ++ q :: c) := by
      have := (Eqv.inv_left (m := m) a).right (b ++ q :: c)
      simpa using this
    have y2 : Eqv m (a.reverse ++ (a ++ p :: b ++ c)) (p :: b ++ c) := by
      have := (Eqv.inv_left (m := m) a).right (p :: b ++ c)
      simpa using this
    exact y1.symm.trans (x.trans y2)
  have h2 : Eqv m (a ++ p :: (b ++ q :: c)) (a ++ (b ++ c)) := by
    have x := h1.left (a ++ [p])
    have y : Eqv m (a ++ [p] ++ (p :: b ++ c)) (a ++ (b ++ c)) := by
      have := (Eqv.cancel (m := m) p).app a (b ++ c)
      simpa using this
    have e : a ++ [p] ++ (b ++ q :: c) = a ++ p :: (b ++ q :: c) := by simp
    rw [e] at x
    exact x.trans y
  have l1 := ln_eqv h2
  have l2 := ln_self (m := m) (a ++ (b ++ c))
  have r : ln m (a ++ p :: (b ++ q :: c)) = (a ++ p :: (b ++ q :: c)).length := r
  simp only [List.length_append, List.length_cons] at r l2
  omega
end
end Cox

/-! What remains of a normal word is normal. -/
namespace Cox
theorem lx_pre : ∀ {a d x y : W}, a.length = d.length → lx (a ++ x) (d ++ y) → lx a d
  | [], [], _, _, _, _ => trivial
  | [], _ :: _, _, _, h, _ => by cases h
  | _ :: _, [], _, _, h, _ => by cases h
  | i :: a, j :: d, x, y, h, k => by
    have h : a.length = d.length := by simpa using h
    have k : i < j ∨ (i = j ∧ lx (a ++ x) (d ++ y)) := k
    rcases k with k | ⟨k, k2⟩
    · exact .inl k
    · exact .inr ⟨k, lx_pre h k2⟩
theorem lx_cut : ∀ {a x y : W}, lx (a ++ x) (a ++ y) → lx x y
  | [], _, _, h => h
  | i :: a, x, y, h => by
    have h : i < i ∨ (i = i ∧ lx (a ++ x) (a ++ y)) := h
    rcases h with h | ⟨_, h⟩
    · exact absurd h (Fin.lt_irrefl i)
    · exact lx_cut h
theorem lx_put : ∀ {a x y : W}, lx x y → lx (a ++ x) (a ++ y)
  | [], _, _, h => h
  | i :: a, x, y, h => .inr ⟨rfl, lx_put h⟩
/-- if a letter of a least word is left out as an end's, what remains is the least -/
theorem left_least {m : Fin 3 → Fin 3 → Nat} {a c d : W} {p s : Fin 3} (hw : ∀ v, Red m v → Eqv m (a ++ p :: c) v → lx (a ++ p :: c) v) (rw' : Red m (a ++ p :: c)) (e : Eqv m (a ++ p :: c ++ [s]) (a ++ c))
    (hd : Eqv m (a ++ c) d) (ld : d.length = (a ++ c).length) (h : lx d (a ++ c)) : d = a ++ c := by
  have la : a.length ≤ d.length := by rw [ld, List.length_append]; omega
  obtain ⟨d1, d2, rfl, l1⟩ : ∃ d1 d2 : W, d = d1 ++ d2 ∧ d1.length = a.length := ⟨d.take a.length, d.drop a.length, (List.take_append_drop _ _).symm, by rw [List.length_take]; omega⟩
  have ew : Eqv m (a ++ p :: c) (d1 ++ d2 ++ [s]) := by
    have x := e.right [s]
    have y : Eqv m (a ++ p :: c ++ [s] ++ [s]) (a ++ p :: c) := by
      have := (Eqv.cancel (m := m) s).left (a ++ p :: c)
      simpa using this
    exact y.symm.trans (x.trans (hd.right [s]))
  have lw : (d1 ++ d2 ++ [s]).length = (a ++ p :: c).length := by
    rw [List.length_append, ld]
    simp
    omega
  have red_of : ∀ v : W, Eqv m (a ++ p :: c) v → v.length = (a ++ p :: c).length → Red m v := fun v ev lv => by
    show ln m v = v.length
    rw [← ln_eqv ev, lv]
    exact rw'
  have k1 := hw _ (red_of _ ew lw) ew
  rw [List.append_assoc] at k1
  have e1 := lx_pre l1.symm k1
  have e2 := lx_pre l1 h
  have e3 : d1 = a := lx_antisymm l1 e2 e1
  subst e3
  have ec : Eqv m c d2 := by
    have x := hd.left d1.reverse
    have y1 : Eqv m (d1.reverse ++ (d1 ++ c)) c := by
      have := (Eqv.inv_left (m := m) d1).right c
      simpa using this
    have y2 : Eqv m (d1.reverse ++ (d1 ++ d2)) d2 := by
      have := (Eqv.inv_left (m := m) d1).right d2
      simpa using this
    exact y1.symm.trans (x.trans y2)
  have lc : d2.length = c.length := by
    rw [List.length_append, List.length_append] at ld
    omega
  have ep : Eqv m (d1 ++ p :: c) (d1 ++ p :: d2) := by
    have := ec.left (d1 ++ [p])
    simpa using this
  have k2 := hw _ (red_of _ ep (by simp [lc])) ep
  have k3 : lx (p :: c) (p :: d2) := lx_cut k2
  have k4 : lx c d2 := lx_cut (a := [p]) k3
  have k5 : lx d2 c := lx_cut h
  rw [lx_antisymm lc k5 k4]
end Cox

/-! Words of two letters, and the nearest tile of a corner. -/
namespace Cox
variable {m : Fin 3 → Fin 3 → Nat}
/-- all letters are one of the two -/
def Two (s t : Fin 3) (x : W) : Prop := ∀ l ∈ x, l = s ∨ l = t
theorem Two.nil {s t : Fin 3} : Two s t [] := fun _ h => nomatch h
theorem Two.app {s t : Fin 3} {x y : W} (h : Two s t x) (k : Two s t y) : Two s t (x ++ y) := fun l hl => (List.mem_append.mp hl).elim (h l) (k l)
theorem Two.rev {s t : Fin 3} {x : W} (h : Two s t x) : Two s t x.reverse := fun l hl => h l (List.mem_reverse.mp hl)
theorem Two.swap {s t : Fin 3} {x : W} (h : Two s t x) : Two t s x := fun l hl => (h l hl).symm
theorem Two.one {s t l : Fin 3} (h : l = s ∨ l = t) : Two s t [l] := fun k hk => by rw [List.mem_singleton.mp hk]; exact h
theorem Two.alt : ∀ (n : Nat) (s t : Fin 3), Two s t (alt s t n)
  | 0, _, _ => .nil
  | n + 1, s, t => fun l hl => by
    rcases List.mem_cons.mp hl with rfl | hl
    · exact .inl rfl
    · exact (Two.alt n t s l hl).symm
theorem alt_turn {s t : Fin 3} (hst : s ≠ t) (h0 : m s t ≠ 0) : Eqv m (alt s t (m s t)) (alt t s (m s t)) := by
  have := Eqv.step (Step.turn (m := m) [] [] s t hst h0)
  simpa using this
theorem two_step (ms : ∀ i j, m i j = m j i) {p q l : Fin 3} (hpq : p ≠ q) (hl : l = p ∨ l = q) (n : Nat) (hn : m p q = 0 ∨ n ≤ m p q) :
    ∃ n', (m p q = 0 ∨ n' ≤ m p q) ∧ n' ≤ n + 1 ∧ (Eqv m (l :: alt p q n) (alt p q n') ∨ Eqv m (l :: alt p q n) (alt q p n')) := by
  rcases hl with rfl | rfl
  · cases n with
    | zero => exact ⟨1, by omega, by omega, .inl (.refl _)⟩
    | succ k => exact ⟨k, by omega, by omega, .inr (.step (.cut [] _ _))⟩
  · by_cases c : m p l = 0 ∨ n + 1 ≤ m p l
    · exact ⟨n + 1, c, by omega, .inr (.refl _)⟩
    · have e : n = m p l := by omega
      have h0 : m p l ≠ 0 := by omega
      obtain ⟨k, hk⟩ : ∃ k, m p l = k + 1 := ⟨m p l - 1, by omega⟩
      have h := (alt_turn (m := m) hpq h0).left [l]
      rw [← e] at h
      rw [e, hk] at h ⊢
      refine ⟨k, by omega, by omega, .inl (Eqv.trans h ?_)⟩
      exact .step (.cut [] _ _)
theorem two_form (ms : ∀ i j, m i j = m j i) {s t : Fin 3} (hst : s ≠ t) : ∀ x : W, Two s t x → ∃ n, (m s t = 0 ∨ n ≤ m s t) ∧ n ≤ x.length ∧ (Eqv m x (alt s t n) ∨ Eqv m x (alt t s n))
  | [], _ => ⟨0, .inr (Nat.zero_le _), Nat.le_refl _, .inl (.refl _)⟩
  | l :: x, h => by
    obtain ⟨n, h1, h2, h3⟩ := two_form ms hst x fun k hk => h k (List.mem_cons_of_mem _ hk)
    have hl := h l List.mem_cons_self
    rcases h3 with h3 | h3
    · obtain ⟨n', a1, a2, a3⟩ := two_step (m := m) ms hst hl n h1
      have g := h3.left [l]
      refine ⟨n', a1, by rw [List.length_cons]; omega, ?_⟩
      exact a3.imp g.trans g.trans
    · rw [ms s t] at h1 ⊢
      obtain ⟨n', a1, a2, a3⟩ := two_step (m := m) ms hst.symm hl.symm n h1
      have g := h3.left [l]
      refine ⟨n', a1, by rw [List.length_cons]; omega, ?_⟩
      exact (a3.imp g.trans g.trans).symm
theorem ln_nil : ln m [] = 0 := Nat.le_zero.mp (ln_self (m := m) [])
theorem ln_one (s : Fin 3) : ln m ([] ++ [s]) = ln m [] + 1 := by
  rcases ln_snoc (m := m) [] s with h | h
  · exact h
  · rw [ln_nil] at h; omega
theorem ln_zeroE {x : W} (h : ln m x = 0) : Eqv m x [] := by
  obtain ⟨u, h1, h2⟩ := ln_ex (m := m) x
  rw [h] at h2
  rw [List.length_eq_zero_iff.mp h2] at h1
  exact h1
/-- neither letter is an end -/
def NoEnd (m : Fin 3 → Fin 3 → Nat) (s t : Fin 3) (v : W) : Prop := ln m (v ++ [s]) = ln m v + 1 ∧ ln m (v ++ [t]) = ln m v + 1
section
variable {c : Fin 3 → Fin 3 → Re}
theorem two_len (O : Ord m c) {s t : Fin 3} (hst : s ≠ t) {v x : W} (hv : NoEnd m s t v) (hx : Two s t x) : ln m (v ++ x) = ln m v + ln m x := by
  obtain ⟨n, h1, _, h3⟩ := two_form O.msym hst x hx
  have a := coset2 O hst hv.1 hv.2 n h1
  have b := coset2 O hst (ln_one (m := m) s) (ln_one (m := m) t) n h1
  rw [List.nil_append, List.nil_append, ln_nil] at b
  rcases h3 with h3 | h3
  · rw [ln_eqv (h3.left v), ln_eqv h3, a.1, b.1]; omega
  · rw [ln_eqv (h3.left v), ln_eqv h3, a.2, b.2]; omega
/-- the nearest tile is one -/
theorem near_one (O : Ord m c) {s t : Fin 3} (hst : s ≠ t) {v v' x x' : W} (hv : NoEnd m s t v) (hv' : NoEnd m s t v') (hx : Two s t x) (hx' : Two s t x') (h : Eqv m (v ++ x) (v' ++ x')) : Eqv m v v' := by
  have e : Eqv m v' (v ++ (x ++ x'.reverse)) := by
    have h1 := h.right x'.reverse
    have h2 := (Eqv.inv_right (m := m) x').left v'
    rw [List.append_nil, ← List.append_assoc] at h2
    rw [List.append_assoc] at h1
    exact (h1.trans h2).symm
  have e2 : Eqv m v (v' ++ (x' ++ x.reverse)) := by
    have h1 := h.symm.right x.reverse
    have h2 := (Eqv.inv_right (m := m) x).left v
    rw [List.append_nil, ← List.append_assoc] at h2
    rw [List.append_assoc] at h1
    exact (h1.trans h2).symm
  have l1 := two_len O hst hv (hx.app hx'.rev)
  have l2 := two_len O hst hv' (hx'.app hx.rev)
  rw [← ln_eqv e] at l1
  rw [← ln_eqv e2] at l2
  have z : ln m (x ++ x'.reverse) = 0 := by omega
  have := (ln_zeroE z).left v
  rw [List.append_nil] at this
  exact (e.trans this).symm
end
/-- a gate of the corner of v as seen from u: the word to it -/
structure Gt (m : Fin 3 → Fin 3 → Nat) (s t : Fin 3) (g p : W) : Prop where
  red : Red m p
  no : NoEnd m s t p
  two : ∃ x, Two s t x ∧ x.length ≤ g.length ∧ Eqv m g (p ++ x)
theorem gt_ex {i j : Fin 3} : ∀ (n : Nat) (g : W), g.length ≤ n → Red m g → ∃ p, Gt m i j g p ∧ p.length ≤ g.length := by
  intro n
  induction n with
  | zero =>
    intro g hg r
    refine ⟨g, ⟨r, ⟨?_, ?_⟩, [], .nil, Nat.zero_le _, by rw [List.append_nil]; exact .refl _⟩, Nat.le_refl _⟩
    · rcases ln_snoc (m := m) g i with h | h
      · exact h
      · have : ln m g = g.length := r
        omega
    · rcases ln_snoc (m := m) g j with h | h
      · exact h
      · have : ln m g = g.length := r
        omega
  | succ n ih =>
    intro g hg r
    have step : ∀ l, (l = i ∨ l = j) → ln m g = ln m (g ++ [l]) + 1 → ∃ p, Gt m i j g p ∧ p.length ≤ g.length := fun l hl h => by
      obtain ⟨g', e, r'⟩ := red_ex (m := m) (g ++ [l])
      have l1 : g'.length + 1 = g.length := by
        have h1 : ln m g' = g'.length := r'
        have h2 : ln m g = g.length := r
        have := ln_eqv e
        omega
      obtain ⟨p, G, lp⟩ := ih g' (by omega) r'
      obtain ⟨x, tx, lx, ex⟩ := G.two
      refine ⟨p, ⟨G.red, G.no, x ++ [l], tx.app (Two.one hl), by rw [List.length_append, List.length_singleton]; omega, ?_⟩, by omega⟩
      have h1 := (e.symm.trans (.refl _)).symm.right [l]
      have h2 := (snoc_snoc (m := m) g l).symm.trans h1
      have h3 := ex.right [l]
      rw [List.append_assoc] at h3
      exact h2.trans h3
    rcases ln_snoc (m := m) g i with hi | hi
    · rcases ln_snoc (m := m) g j with hj | hj
      · exact ⟨g, ⟨r, ⟨hi, hj⟩, [], .nil, Nat.zero_le _, by rw [List.append_nil]; exact .refl _⟩, Nat.le_refl _⟩
      · exact step j (.inr rfl) hj
    · exact step i (.inl rfl) hi
section
variable {c : Fin 3 → Fin 3 → Re} {nf : W → W}
structure NFc (m : Fin 3 → Fin 3 → Nat) (nf : W → W) : Prop where
  e : ∀ u : W, u.length ≤ 400 → Eqv m u (nf u)
  r : ∀ u : W, u.length ≤ 400 → Red m (nf u)
  c : ∀ u v : W, u.length ≤ 400 → v.length ≤ 400 → Eqv m u v → nf u = nf v
theorem NFc.l (N : NFc m nf) {u : W} (hu : u.length ≤ 400) : (nf u).length = ln m u := by
  rw [← N.r u hu, ← ln_eqv (N.e u hu)]
theorem NFc.le (N : NFc m nf) {u : W} (hu : u.length ≤ 400) : (nf u).length ≤ u.length := by
  rw [N.l hu]; exact ln_self u
/-- what the program found around the corner of a tile -/
structure Aro (m : Fin 3 → Fin 3 → Nat) (nf : W → W) (i j : Fin 3) (u : W) (ar : List W) : Prop where
  nd : ar.Nodup
  of : ∀ x ∈ ar, ∃ y, Two i j y ∧ y.length ≤ 14 ∧ x = nf (u ++ y)
  all : ∀ k, k ≤ 14 → nf (u ++ alt i j k) ∈ ar ∧ nf (u ++ alt j i k) ∈ ar
theorem gt_split {i j : Fin 3} {w u p g : W} (hg : Eqv m (w.reverse ++ u) g) (G : Gt m i j g p) : ∃ x0, Two i j x0 ∧ x0.length ≤ g.length ∧ Eqv m u (w ++ (p ++ x0)) := by
  obtain ⟨x0, h1, h2, h3⟩ := G.two
  refine ⟨x0, h1, h2, ?_⟩
  have e1 := (hg.trans h3).left w
  have e2 := (Eqv.inv_right (m := m) w).right u
  rw [List.append_assoc] at e2
  exact e2.symm.trans e1
theorem back_w {w x : W} : Eqv m (w.reverse ++ (w ++ x)) x := by
  have e2 := (Eqv.inv_left (m := m) w).right x
  rwa [List.append_assoc] at e2
theorem gate_law (O : Ord m c) (N : NFc m nf) {i j : Fin 3} (hij : i ≠ j) {u w p : W} {ar : List W} (hu : u.length ≤ 60) (hw : w.length ≤ 60) (hp : p.length ≤ 60) (h14 : (nf (w.reverse ++ u)).length ≤ 14) (A : Aro m nf i j u ar) (G : Gt m i j (nf (w.reverse ++ u)) p) :
    nf (w ++ p) ∈ ar ∧ (∀ x ∈ ar, (nf (w.reverse ++ x)).length = p.length + (nf ((nf (w ++ p)).reverse ++ x)).length) ∧ (∀ x ∈ ar, (nf (w.reverse ++ x)).length = p.length → x = nf (w ++ p)) ∧
    (nf (w.reverse ++ nf (w ++ p))).length = p.length ∧ ∀ x ∈ ar, ∀ p', p'.length ≤ 60 → Gt m i j (nf (w.reverse ++ x)) p' → nf (w ++ p') = nf (w ++ p) := by
  obtain ⟨x0, t0, l0, e0⟩ := gt_split (N.e _ (by simp; omega)) G
  have lwp : (w ++ p).length ≤ 400 := by simp; omega
  have lt : (nf (w ++ p)).length ≤ 120 := by have := N.le lwp; simp at this; omega
  have lx : ∀ x ∈ ar, x.length ≤ 80 := fun x hx => by
    obtain ⟨y, _, ly, rfl⟩ := A.of x hx
    have := N.le (u := u ++ y) (by simp; omega)
    simp at this
    omega
  have key : ∀ x ∈ ar, ∃ y, Two i j y ∧ x = nf (u ++ y) ∧ (u ++ y).length ≤ 400 ∧ Eqv m (u ++ y) (w ++ (p ++ (x0 ++ y))) ∧ Eqv m x (w ++ (p ++ (x0 ++ y))) := fun x hx => by
    obtain ⟨y, ty, ly, rfl⟩ := A.of x hx
    have e1 := e0.right y
    rw [List.append_assoc, List.append_assoc] at e1
    have l1 : (u ++ y).length ≤ 400 := by simp; omega
    exact ⟨y, ty, rfl, l1, e1, (N.e _ l1).symm.trans e1⟩
  have len : ∀ x ∈ ar, ∀ y, Two i j y → Eqv m x (w ++ (p ++ (x0 ++ y))) → (nf (w.reverse ++ x)).length = p.length + ln m (x0 ++ y) := fun x hx y ty e1 => by
    have := lx x hx
    rw [N.l (by simp; omega), ln_eqv ((e1.left w.reverse).trans back_w), two_len O hij G.no (t0.app ty), G.red]
  have mem : nf (w ++ p) ∈ ar := by
    obtain ⟨n, _, h2, h3⟩ := two_form O.msym hij x0.reverse t0.rev
    rw [List.length_reverse] at h2
    have fin : ∀ y : W, y.length ≤ 14 → Eqv m x0.reverse y → nf (u ++ y) = nf (w ++ p) := fun y ly ey => by
      refine N.c _ _ (by simp; omega) lwp ?_
      have e1 := e0.mul ey.symm
      rw [List.append_assoc, List.append_assoc] at e1
      have e2 := ((Eqv.inv_right (m := m) x0).left p).left w
      rw [List.append_nil] at e2
      exact e1.trans e2
    have n14 : n ≤ 14 := by omega
    rcases h3 with h3 | h3
    · rw [← fin _ (by rw [alt_length]; exact n14) h3]
      exact (A.all n n14).1
    · rw [← fin _ (by rw [alt_length]; exact n14) h3]
      exact (A.all n n14).2
  refine ⟨mem, fun x hx => ?_, fun x hx hl => ?_, ?_, fun x hx p' lp' G' => ?_⟩
  · obtain ⟨y, ty, rfl, _, _, e1⟩ := key x hx
    have lxx := lx _ hx
    rw [len _ hx y ty e1, N.l (by simp; omega)]
    have e2 : Eqv m ((nf (w ++ p)).reverse ++ nf (u ++ y)) (x0 ++ y) := by
      have h1 := ((N.e _ lwp).symm.rev).mul e1
      have h2 := back_w (m := m) (w := w ++ p) (x := x0 ++ y)
      rw [List.append_assoc] at h2
      exact h1.trans h2
    rw [ln_eqv e2]
  · obtain ⟨y, ty, e3, l3, e4, e1⟩ := key x hx
    rw [len _ hx y ty e1] at hl
    have z : Eqv m (x0 ++ y) [] := ln_zero (by omega)
    rw [e3]
    refine N.c _ _ l3 lwp (e4.trans ?_)
    have := (z.left p).left w
    rwa [List.append_nil] at this
  · rw [N.l (by simp; omega), ln_eqv (((N.e _ lwp).symm.left w.reverse).trans back_w), G.red]
  · obtain ⟨y, ty, rfl, _, _, e1⟩ := key x hx
    have lxx := lx _ hx
    obtain ⟨x1, t1, _, e5⟩ := gt_split (N.e _ (by simp; omega)) G'
    have e6 := Eqv.cancel_left (e1.symm.trans e5)
    exact (N.c _ _ lwp (by simp; omega) ((near_one O hij G.no G'.no (t0.app ty) t1 e6).left w)).symm
end
end Cox

/-! Own kit: a def bundled with where it stands, calls of such defs, repr of data, the law's entry with nothing being shown. -/
namespace FK
open PySem PySem.Spec PyProof.Rows L2
section
variable {P : Program} {w : World} {K : PySem.W.Frag} {mg : Str → Option Value} {base : Heap}
/-- the def of the statement st stands under its name -/
def At (K : PySem.W.Frag) (mg : Str → Option Value) (x : Str) (st : Stmt) (ps : List Str) : Prop :=
  ∃ (f : Addr) (fd : FuncData), Fun K x x st f fd ∧ mg x = some (.ref f) ∧ Binds K fd ps []
/-- the def of this name keeps the promise -/
def Has (P : Program) (w : World) (K : PySem.W.Frag) (mg : Str → Option Value) (base : Heap) (CX : CXT) (k : Nat) (x : Str) (ps : List Str) (sp : Sp) : Prop :=
  ∃ (f : Addr) (fd : FuncData), FnOk P w K mg base CX k f fd ps sp ∧ mg x = some (.ref f) ∧ PySem.W.keepIn K (.ref f) = true ∧ Binds K fd ps []
theorem Has.mono {CX : CXT} {j k : Nat} {x : Str} {ps : List Str} {sp : Sp} (h : Has P w K mg base CX j x ps sp) (hk : j ≤ k) : Has P w K mg base CX k x ps sp := by
  obtain ⟨f, fd, h1, h2⟩ := h
  exact ⟨f, fd, h1.mono hk, h2⟩
theorem At.ok {x : Str} {st : Stmt} {N ps : List Str} {k : Nat} {sp : Sp} (D : At K mg x st ps) (S : FnScope N ps (defScope st)) (len : ∀ vs H Q E, sp vs H Q E → vs.length = ps.length)
    (hbody : ∀ (f : Addr) (cdv : Value) (A : Around) (outer : List Env) (s : Shared) (H : Hp) (vs : List V) (Q : VK) (E : XK), Room k (A.deeper (envOfC x (defScope st) s.heap.objs.size f cdv)) → sp vs H Q E →
      ∃ t, PSs (cxOf CX0 P w K mg base N x (defScope st) f cdv A outer s H E).nox (defBody st) t ∧ t { nx := fun _ H' => Q .non H', rt := Q } (start N vs) H) : Has P w K mg base CX0 (k + 1) x ps sp := by
  obtain ⟨f, fd, F, g, b⟩ := D
  exact ⟨f, fd, F.ok S len (hbody f), g, F.kp, b⟩
theorem At.okX {x : Str} {st : Stmt} {N ps : List Str} {k : Nat} {sp : Sp} (D : At K mg x st ps) (S : FnScope N ps (defScope st)) (len : ∀ vs H Q E, sp vs H Q E → vs.length = ps.length)
    (hbody : ∀ (f : Addr) (cdv : Value) (A : Around) (outer : List Env) (s : Shared) (H : Hp) (vs : List V) (Q : VK) (E : XK), Room k (A.deeper (envOfC x (defScope st) s.heap.objs.size f cdv)) → sp vs H Q E →
      ∃ t, PSs (cxOf (L2.CX P w) P w K mg base N x (defScope st) f cdv A outer s H E) (defBody st) t ∧ t { nx := fun _ H' => Q .non H', rt := Q } (start N vs) H) : Has P w K mg base (L2.CX P w) (k + 1) x ps sp := by
  obtain ⟨f, fd, F, g, b⟩ := D
  exact ⟨f, fd, F.okX S len (hbody f), g, F.kp, b⟩
end
/-- what the top says of an own error class (no __init__ of its own) that stands at C -/
structure XC (K : PySem.W.Frag) (mg : Str → Option Value) (x : Str) (C : Addr) : Prop where
  g : mg x = some (.ref C)
  k : PySem.W.keepIn K (.ref C) = true
  x : PySem.W.excIn K C [.type "ValueError", .type "Exception", .type "BaseException", .type "object"] "ValueError.__new__" = true
  b : PySem.W.subIn K (.ref C) (.type "BaseException") = some true
  t : PySem.W.typeIn K (.ref C) = some (.type "type")
  c : PySem.W.isClsIn K C = true
  e : ExcC K C
section
variable {X : Cx} {k : Nat} {x : Str} {ps : List Str} {sp : Sp} {p pos : Pos} {e : Expr} {es : List Expr} {t : TA}
/-- f(e, ..), what f lets out goes to E -/
theorem pe_h {CX : CXT} {E : XK} (h : Has X.prog X.w X.K X.mg X.base CX k x ps sp) (hr : Room k X.A) (hx : Passes CX X E) (ha : PA X (e :: es) t) (hg : Gl X x := by rfl) (hdb : (x == ("__debug__" : Str)) = false := by decide)
    (he : starEach (e :: es) X.env = (false, eval e X.env) :: starEach es X.env := by rfl) (hpl : (backTo pos (starEach es X.env)).any (·.1) = false := by rfl) :
    PE X (.Call (.Name x p) (e :: es) [] pos) (tCall sp [] E t) := by
  obtain ⟨f, fd, F, g, kp, b⟩ := h
  exact pe_call F hr hg g kp b .nil hx ha hdb he hpl
theorem pe_h0 {CX : CXT} {E : XK} (h : Has X.prog X.w X.K X.mg X.base CX k x ps sp) (hr : Room k X.A) (hx : Passes CX X E) (hg : Gl X x := by rfl) (hdb : (x == ("__debug__" : Str)) = false := by decide) :
    PE X (.Call (.Name x p) [] [] pos) (tCall sp [] E tNil) := by
  obtain ⟨f, fd, F, g, kp, b⟩ := h
  exact pe_call0 F hr hg g kp b .nil hx hdb
/-- the same in a try's body: what f lets out is wished for at the slots -/
theorem pe_hS {CX : CXT} {E : L2.St → XK} (h : Has X.prog X.w X.K X.mg X.base CX k x ps sp) (hr : Room k X.A) (hx : ∀ σ, PassesAt CX X σ (E σ)) (ha : PA X (e :: es) t) (hg : Gl X x := by rfl) (hdb : (x == ("__debug__" : Str)) = false := by decide)
    (he : starEach (e :: es) X.env = (false, eval e X.env) :: starEach es X.env := by rfl) (hpl : (backTo pos (starEach es X.env)).any (·.1) = false := by rfl) :
    PE X (.Call (.Name x p) (e :: es) [] pos) (tCallS sp E t) := by
  obtain ⟨f, fd, F, g, kp, b⟩ := h
  exact pe_callS F hr hg g kp b hx ha hdb he hpl
/-- repr(x), x data of any depth, where nothing is being shown -/
def rRepr (K : PySem.W.Frag) : List V → Hp → VK → Prop := fun xs H Q => ∃ (x : V) (d : PyData), xs = [x] ∧ Dp K H x d ∧ d.showable = true ∧ d.hasDict = false ∧ d.depth < 40 ∧ d.shown.length ≤ sizeLine ∧ Q (.str d.shown) H
theorem call_repr (hg : X.A.guards = some []) (hr : Room k X.A) : CallR X (.builtin "repr") (rRepr X.K) := by
  intro pins s σ H xs us Q I r h
  obtain ⟨x, d, rfl, hd, hs, hn, hdp, hz, q⟩ := h
  obtain ⟨u, rfl, rx⟩ := vals1 r
  obtain ⟨as, rd⟩ := Dp.reads I d _ u hd rx
  have hu := hr.units
  cases hd with
  | non =>
    cases rx
    exact PySem.P.repr_of_none ⟨.str _, H, I.tok _, ⟨_, rfl⟩, q⟩
  | bl b =>
    cases rx
    exact PySem.P.repr_of_bool ⟨.str _, H, I.tok _, ⟨_, rfl⟩, q⟩
  | int i =>
    obtain ⟨t, rfl⟩ := rx
    exact PySem.P.repr_of_int (of_decide_eq_true hs) ⟨.str _, H, I.tok _, ⟨_, rfl⟩, q⟩
  | str x =>
    obtain ⟨t, rfl⟩ := rx
    exact PySem.P.repr_of_str ⟨.str _, H, I.tok _, ⟨_, rfl⟩, q⟩ hz
  | lst h1 h2 =>
    cases rx
    exact repr_of_reads' (s := s) rd hs (PyData.noDict_hsm hn) hg (by omega) (fun _ _ e => e) (fun h' u tk hk => ⟨.str _, H, I.kept (t' := tk) hk, ⟨u, rfl⟩, q⟩) hz
  | tup h1 h2 =>
    cases rx
    exact repr_of_reads' (s := s) rd hs (PyData.noDict_hsm hn) hg (by omega) (fun _ _ e => e) (fun h' u tk hk => ⟨.str _, H, I.kept (t' := tk) hk, ⟨u, rfl⟩, q⟩) hz
/-- int(n) of a whole number -/
theorem call_intI : CallR X (.type "int") (fun xs H Q => ∃ i, xs = [.int i] ∧ Q (.int i) H) := fun pins s σ H xs us Q I r h => call_int1 pins s σ H xs us Q I r (.inl h)
/-- xs[i] read for xs[i] -= e, i not negative -/
theorem pget_list : PGet X (fun x y H Q => ∃ p xs i v, x = .ref p ∧ y = .int i ∧ 0 ≤ i ∧ SqL X.K H p xs ∧ atI xs i = some v ∧ Q v H) := by
  intro pins s σ H o i ov iv Q I ro ri h
  obtain ⟨p, xs, k, z, rfl, rfl, h0, hq, he, q⟩ := h
  cases ro
  obtain ⟨t, rfl⟩ := ri
  obtain ⟨its, r, pl, hz⟩ := I.list hq
  obtain ⟨j, h1, h2, h3, h4, h5⟩ := atI_get he
  obtain ⟨w, ew, rw'⟩ := r.get h2
  have hl := r.length
  have hn := line63
  have hj : k.toNat = j := by
    rw [seqIndex_of h0 h5] at h1
    exact Option.some.inj h1
  exact wpAny_getItem_list pl.isList h0 (by omega) (by rw [hj]; simpa using ew) ⟨z, H, I, rw', q⟩
/-- isinstance(e, c) in the suite that holds e, whatever class e has -/
theorem call_isEx {a : Addr} {oe : Obj} {cls : Value} {dd : Option Addr} {pn : List (Addr × Obj)} (hz : Zc cls dd oe) (hf : ∃ vs, oe.data = .fields vs) :
    CallR (X.suite a ((a, oe) :: pn)) (.builtin "isinstance") (fun xs H Q => ∃ D : Addr, cls = .ref D ∧ dd = none ∧ ExcC X.K D ∧ rIsE X.K D a xs H Q) := by
  intro pins s σ H xs us Q I r h
  obtain ⟨D, rfl, rfl, C, q⟩ := h
  exact call_isE C hz hf pins s σ H xs us Q I r q
end
end FK

/-! Own entry of a law: its def run where the caller stands, with nothing being shown. -/
namespace FK
open PySem PySem.Spec PyProof.Rows L2
section
variable {P : Program} {w : World} {K : PySem.W.Frag} {mg : Str → Option Value} {base : Heap}
/-- the law's def, called by the caller: what its body says of every answer -/
theorem run_def {x q : Str} {pr : Arguments} {body : List Stmt} {sc : Scope} {N ps : List Str} {k : Nat} {f : Addr} {A : Around} {s : Shared} {H : Hp} {us : List Value} {vs : List V} {args : Args} {Q : VK} {kV doc pm cdv ct oc : Value} {an od : Option Addr} {osl : Array (Option Value)}
    (lk : K.lookup f = some ⟨oc, od, .func (PySem.W.fnOf x q pr body sc .none kV doc pm an cdv ct), osl⟩) (hc : PySem.W.codeIn K cdv q = true)
    (S : FnScope N ps sc) (hr : Room (k + 1) A) (e0 : Env0 P w K mg base A [] s H) (hv : Vals vs us) (hl : vs.length = ps.length) (hb : BindsTo s (PySem.W.fnOf x q pr body sc .none kV doc pm an cdv ct) args (ps.zip us))
    {t : TS} (hp : PSs (cxOf CX0 P w K mg base N q sc f cdv A [] s H E0).nox body t) (ht : t { nx := fun _ H' => Q .non H', rt := Q } (start N vs) H) :
    codeAny (model P w) A (.call (.ref f) args) (CR CX0 [] P w H s Q E0) s := by
  have up : ∀ {b : Addr} {o : Obj}, base.get? b = some o → s.heap.get? b = some o := fun {b o} e => (e0.bs b o e).1
  have inK : K.In s.heap := e0.mod.kin.keeps fun _ _ e => up e
  refine codeAny_call_function hr.depth (inK _ _ lk) rfl S.co S.gen rfl (PySem.W.codeRec_of inK hc) (hb _ _ _ _ ?_)
  refine wpAny_newFunctionEnv_cells S.kind (fun z hz => ?_) fun env he s1 C => ?_
  · rcases S.par z.1 (List.of_mem_zip (show (z.1, z.2) ∈ ps.zip us from hz)).1 with c | c
    · exact Or.inl c
    · exact Or.inr ⟨c, PySem.W.cellsFrom_some _ _ _ (Or.inl c)⟩
  · cases he
    have nl : s.heap.NoLimit := e0.mod.nolimit.keeps fun _ _ e => up e
    refine ⟨nl.keeps C.toInCall.keep, codeAny_func ?_⟩
    have I := inv_start (CX := CX0) (qual := q) (f := f) (cd := cdv) (E := E0) S hr.hd e0 hl hv C
    refine wpAny_mono (hp.nox.run [] s1 (start N vs) H _ I ht) (fun fl s2 z => ?_) fun _ _ z => z
    cases fl with
    | ret u => obtain ⟨v, _, H2, J, rv, q⟩ := z; exact ⟨v, H2, J.os, J.bare, J.base, J.hok, rv, q⟩
    | next => obtain ⟨_, H2, J, q⟩ := z; exact ⟨.non, H2, J.os, J.bare, J.base, J.hok, rfl, q⟩
    | brk => exact False.elim (let ⟨_, _, _, q⟩ := z; q)
    | cont => exact False.elim (let ⟨_, _, _, q⟩ := z; q)
/-- from the caller's state to an abstract heap in which nothing but the script may stand -/
theorem law_in {mb : Str → Option Value} {fa a : Addr} {s : Shared} {vs : List Value} {ns : List Int} (inK : K.In s.heap) (gl : s.heap.Ns mainGlobals mg) (bl : s.heap.Ns builtinsNs mb) (bb : ∀ z : Str, z ≠ "__name__" → mb z = bootBuiltins z) (nl : s.heap.NoLimit) (gs : s.gens = #[])
    (la : s.heap.get? a = some { cls := .type "list", data := .seq vs.toArray }) (ia : IntsAre vs ns) (le : ns.length ≤ sizeLine)
    (go : ∀ (base : Heap) (H : Hp), Env0 P w K mg base callerA [] s H → SqL K H a (ns.map V.int) → codeAny (model P w) callerA (.call (.ref fa) ⟨[.ref a], []⟩) (CR CX0 [] P w H s (fun v _ => v = .bl true) E0) s) :
    codeAny (model P w) callerA (.call (.ref fa) ⟨[.ref a], []⟩) (fun r s' => r = .ok (.ret (.bool true)) ∧ OldK s.heap s'.heap ∧ s'.os = s.os ∧ AllBare s'.gens) s := by
  have rv : Vals (ns.map V.int) vs := vals_ints ia
  have lv := ia.length
  have lm : (ns.map V.int).length ≤ sizeLine := by rw [List.length_map]; exact le
  -- the abstract heap: the script, locked, if it is no object of the text itself
  obtain ⟨H, hH⟩ : ∃ H : Hp, ∀ b, H b = if b = a ∧ K.lookup a = none then some (HO.frz { cls := .type "list", data := .seq vs.toArray } (.lst (ns.map V.int))) else none := ⟨_, fun _ => rfl⟩
  have Hno : ∀ {b : Addr}, ¬(b = a ∧ K.lookup a = none) → H b = none := fun {b} c => by rw [hH, if_neg c]
  have Hyes : ∀ {b : Addr} {u : HO}, H b = some u → (b = a ∧ K.lookup a = none) ∧ u = .frz { cls := .type "list", data := .seq vs.toArray } (.lst (ns.map V.int)) := fun {b u} e => by
    rw [hH] at e
    by_cases c : b = a ∧ K.lookup a = none
    · rw [if_pos c] at e; cases e; exact ⟨c, rfl⟩
    · rw [if_neg c] at e; cases e
  have sq : SqL K H a (ns.map V.int) := by
    cases c : K.lookup a with
    | none => exact .inl (.inr ⟨_, by rw [hH, if_pos ⟨rfl, c⟩]⟩)
    | some o =>
      have e := (inK a o c).symm.trans la
      cases e
      exact .inr ⟨_, vs.toArray, _, c, rfl, rfl, rfl, by rw [List.size_toArray, lv]; exact le, by simpa using rv⟩
  have kept : ∀ {b : Addr} {o : Obj}, s.heap.get? b = some o → H b = none → (hidT s.heap H).get? b = some o := fun e n => hidT_get e n
  have ok : HOk P w H s.heap := fun b u e => by
    obtain ⟨⟨rfl, _⟩, rfl⟩ := Hyes e
    exact ⟨la, lm, vs, _, rv, la⟩
  have dk : ∀ {b : Addr} {o : Obj} {es : Array DictEntry} {n : Nat}, s.heap.get? b = some o → o.data = .dict es n → H b = none := fun {b o es n} e d => by
    refine Hno fun c => ?_
    rw [c.1, la] at e
    cases e
    exact nomatch d
  have nsk : ∀ {b : Addr} {m : Str → Option Value}, s.heap.Ns b m → (hidT s.heap H).Ns b m := fun {b m} z => by
    obtain ⟨o, es, n, e, d, r⟩ := z
    exact ⟨o, es, n, kept e (dk e d), d, r⟩
  have kb : K.In (hidT s.heap H) := fun b o e => kept (inK b o e) (Hno fun c => by rw [c.1, c.2] at e; cases e)
  have M : Mod K mg (hidT s.heap H) := ⟨kb, nsk gl, ⟨mb, nsk bl, bb⟩, by obtain ⟨mc, h1, h2⟩ := nl; exact ⟨mc, nsk h1, h2⟩⟩
  have e0 : Env0 P w K mg (hidT s.heap H) callerA [] s H := ⟨rfl, M, fun _ _ e => of_hidT e, Nat.le_of_eq (hidT_size _ _), trivial, fun b hb => absurd (show b ∈ ([] : List Addr) from hb) List.not_mem_nil, ok, .of_eq gs⟩
  refine codeAny_mono (go _ H e0 sq) fun r s' z => ?_
  match r, z with
  | .error _, z => exact False.elim z
  | .ok .next, z => exact False.elim z
  | .ok .brk, z => exact False.elim z
  | .ok .cont, z => exact False.elim z
  | .ok (.ret u), z =>
    obtain ⟨v, H', os, bare, un, ok', rv', ev⟩ := z
    cases (show v = .bl true from ev)
    cases (show u = Value.bool true from rv')
    refine ⟨rfl, OldK.of_keep fun b o e => ?_, os, bare⟩
    cases c : H b with
    | none => exact un.keep b o e c (fun z => absurd (show b ∈ ([] : List Addr) from z) List.not_mem_nil) List.not_mem_nil
    | some u =>
      obtain ⟨_, rfl⟩ := Hyes c
      have g1 := (ok b _ c).1
      have g2 := (ok' b _ (un.frzs b _ _ c)).1
      exact g2.trans (g1.symm.trans e)
/-- a bundled def, called by the caller -/
theorem At.run {x : Str} {st : Stmt} {N ps : List Str} {k : Nat} {fa : Addr} {s : Shared} {H : Hp} {us : List Value} {vs : List V} {Q : VK} (D : At K mg x st ps) (g : mg x = some (.ref fa)) (S : FnScope N ps (defScope st)) (hr : Room (k + 1) callerA)
    (e0 : Env0 P w K mg base callerA [] s H) (hv : Vals vs us) (hl : vs.length = ps.length)
    (go : ∀ (cdv : Value), Room k (callerA.deeper (envOfC x (defScope st) s.heap.objs.size fa cdv)) → (callerA.deeper (envOfC x (defScope st) s.heap.objs.size fa cdv)).guards = some [] →
      ∃ t, PSs (cxOf CX0 P w K mg base N x (defScope st) fa cdv callerA [] s H E0).nox (defBody st) t ∧ t { nx := fun _ H' => Q .non H', rt := Q } (start N vs) H) :
    codeAny (model P w) callerA (.call (.ref fa) ⟨us, []⟩) (CR CX0 [] P w H s Q E0) s := by
  obtain ⟨f, fd, F, g', b⟩ := D
  cases g.symm.trans g'
  obtain ⟨oc, od, kV, doc, pm, an, cdv, ct, osl, rfl, lk, hc⟩ := F.ex
  have inK : K.In s.heap := e0.mod.kin.keeps fun b o e => (e0.bs b o e).1
  have hlu : us.length = ps.length := by rw [← hv.length]; exact hl
  have hb := b s us inK (by rw [List.append_nil]; exact hlu)
  rw [List.append_nil] at hb
  obtain ⟨t, h1, h2⟩ := go cdv (hr.deeper _) rfl
  exact run_def lk hc S hr e0 hv hl hb h1 h2
end
/-- the end of a law row -/
theorem walk_law {l : PySem.W.OpenLaw} {n : Nat} {q : Program} {loose : List Str} {XP : (Str → Option Value) → Heap → Prop} {YP : World → Heap → Prop} {d : DefRec} {K : Params → PySem.W.Frag}
    (hn : l.most = some n) (hn2 : n ≤ sizeLine) (hdf : d.params.defaults = []) (hY : ∀ (w : World) (h : Heap), YP w h → (K w.params).In h)
    (F : ∀ (w : World) (mg : Str → Option Value) (fa : Addr) (h : Heap), (K w.params).In h → h.Ns mainGlobals mg → mg d.name = some (.ref fa) →
      ∀ (base : Heap) (s : Shared) (H : Hp) (a : Addr) (ns : List Int), ns.length ≤ n → (∀ z ∈ ns, Builtin.Int.intBits z ≤ 1048576) → Env0 l.prog w (K w.params) mg base callerA [] s H → SqL (K w.params) H a (ns.map V.int) →
        codeAny (model l.prog w) callerA (.call (.ref fa) ⟨[.ref a], []⟩) (CR CX0 [] l.prog w H s (fun v _ => v = .bl true) E0) s) :
    PySem.W.WalkO q loose XP YP l.row.toRowW d [] (fun f vs => PySem.call f vs) := by
  refine Att.attach_callB hn hdf fun w s0 s mg mb fa o pm cd doc a vs ns G Y ho hd hcd hmg la ia hl hbits gs => ?_
  have inK := hY w _ Y
  exact law_in inK G.T.g G.T.b G.T.builtins G.T.nolimit gs la ia (Nat.le_trans hl hn2) fun base H e0 sq => F w mg fa _ inK G.T.g hmg base s H a ns hl hbits e0 sq
section
variable {K : PySem.W.Frag} {mg : Str → Option Value} {h : Heap}
theorem at_mk {x : Str} {st : Stmt} {ps : List Str} {f : Addr} {oc : Value} {od an : Option Addr} {osl : Array (Option Value)} {kV doc pm cdv ct : Value} (inK : K.In h) (G : h.Ns mainGlobals mg) (a : PySem.W.nsIn K mainGlobals x = some (some (.ref f)))
    (l : K.lookup f = some ⟨oc, od, .func (PySem.W.fnOf x x (defArgs st) (defBody st) (defScope st) .none kV doc pm an cdv ct), osl⟩) (c : PySem.W.codeIn K cdv x = true) (k : PySem.W.keepIn K (.ref f) = true)
    (b : ∀ (kV doc pm : Value) (an : Option Addr) (cdv ct : Value) (us : List Value), us.length = ps.length → bindArgs (PySem.W.fnOf x x (defArgs st) (defBody st) (defScope st) .none kV doc pm an cdv ct) ⟨us, []⟩ = pure (ps.zip us)) : At K mg x st ps :=
  ⟨f, _, fun_mk l c k, PySem.W.mg_of inK G a, (fun_mk l c k).binds b⟩
theorem xc_mk {x : Str} {C : Addr} (inK : K.In h) (G : h.Ns mainGlobals mg) (g : PySem.W.nsIn K mainGlobals x = some (some (.ref C))) (k : PySem.W.keepIn K (.ref C) = true)
    (q : PySem.W.excIn K C [.type "ValueError", .type "Exception", .type "BaseException", .type "object"] "ValueError.__new__" = true) (b : PySem.W.subIn K (.ref C) (.type "BaseException") = some true) (t : PySem.W.typeIn K (.ref C) = some (.type "type")) (c : PySem.W.isClsIn K C = true)
    (e1 : PySem.W.findIn K (.ref C) "__getattribute__" = some (some (.builtin "BaseException.__getattribute__"))) (e2 : PySem.W.findIn K (.ref C) "__getattr__" = some none) (e4 : PySem.W.hasDictIn K C = true) (e5 : PySem.W.findIn K (.ref C) "__class__" = some (some (.builtin "object.__class__")))
    (e6 : PySem.W.specialIn K (.builtin "object.__class__") "__get__" = some (some (.builtin "getset_descriptor.__get__"))) (e7 : PySem.W.takesIn K (.builtin "object.__class__") = some true) (e8 : PySem.W.mroIn K C (.type "object") = some true) : XC K mg x C :=
  ⟨PySem.W.mg_of inK G g, k, q, b, t, c, ⟨e1, e2, b, e4, e5, e6, e7, e8⟩⟩
theorem tup_mk {a : Addr} {items : Array Value} {dd : Option Addr} {n : Nat} {sl : Array (Option Value)} (l : K.lookup a = some ⟨.type "tuple", dd, .seq items n, sl⟩) : ∃ (dd : Option Addr) (n : Nat) (sl : Array (Option Value)), K.lookup a = some ⟨.type "tuple", dd, .seq items n, sl⟩ := ⟨_, _, _, l⟩
theorem tup2s_mk {a : Addr} {x y : Str} {t1 t2 : Tok} {dd : Option Addr} {n : Nat} {sl : Array (Option Value)} (l : K.lookup a = some ⟨.type "tuple", dd, .seq #[.str x t1, .str y t2] n, sl⟩) : ∃ (dd : Option Addr) (n : Nat) (sl : Array (Option Value)) (t1 t2 : Tok), K.lookup a = some ⟨.type "tuple", dd, .seq #[.str x t1, .str y t2] n, sl⟩ := ⟨_, _, _, _, _, l⟩
theorem kit_mk {D C : Addr} {b : Bool} (n : (Value.ref D == Value.ref C) = false) (c : PySem.W.isClsIn K C = true) (t : PySem.W.typeIn K (.ref C) = some (.type "type")) (s : PySem.W.subIn K (.ref D) (.ref C) = some b) : PySem.W.kitOne K (.ref D) (.ref C) = some b := by
  have e : ((PySem.W.clsIn K C).isSome && PySem.W.typeIn K (.ref C) == some (.type "type")) = true := by
    have c' : (PySem.W.clsIn K C).isSome = true := c
    rw [c', t] <;> rfl
  show (if (Value.ref D == Value.ref C) = true then some true else (if ((PySem.W.clsIn K C).isSome && PySem.W.typeIn K (.ref C) == some (.type "type")) = true then PySem.W.subIn K (.ref D) (.ref C) else none)) = some b
  rw [if_neg (by rw [n]; exact Bool.false_ne_true), if_pos e]
  exact s
theorem kit_same {K : PySem.W.Frag} {D : Addr} : PySem.W.kitOne K (.ref D) (.ref D) = some true := by
  show (if (Value.ref D == Value.ref D) = true then some true else _) = some true
  rw [if_pos (beq_self_eq_true _)]
end
end FK

/-! Own readings: loops and comprehensions over a walk, what stands in the heap behind them. -/
namespace FK
open PySem PySem.Spec PyProof.Rows L2
/-- all but what stands at d is as it was -/
def But (d : Addr) (H H' : Hp) : Prop := ∀ b o, b ≠ d → H b = some o → H' b = some o
theorem But.refl {d : Addr} {H : Hp} : But d H H := fun _ _ _ h => h
theorem But.trans {d : Addr} {H H1 H2 : Hp} (a : But d H H1) (b : But d H1 H2) : But d H H2 := fun c o n h => b c o n (a c o n h)
theorem But.of {d : Addr} {H H' : Hp} (a : Same H H') : But d H H' := fun c o _ h => a c o h
theorem But.upd {d : Addr} {H : Hp} {o : HO} : But d H (upd H d o) := fun c u n h => by rw [upd_ne n]; exact h
theorem same_new {H : Hp} {p : Addr} {o : HO} (h : H p = none) : Same H (upd H p o) := fun b u e => by
  have n : b ≠ p := fun z => by rw [z, h] at e; cases e
  rw [upd_ne n]
  exact e
theorem Same.tupS {K : PySem.W.Frag} {H H' : Hp} {a : Addr} {xs : List V} (e : Same H H') (h : SqT K H a xs) : SqT K H' a xs := by
  rcases h with (h | ⟨o, h⟩) | h
  · exact .inl (.inl (e _ _ h))
  · exact .inl (.inr ⟨o, e _ _ h⟩)
  · exact .inr h
/-- a for over a walk, what is walked told by hw -/
theorem rd_for {wi : TI} {g : TG} {tb : TS} {D : Ends} {σ : L2.St} {H H1 : Hp} {J : It} {n : Nat} {G : Hp → Prop} {Y : Nat → Hp → V → Hp → Prop} (hw : ∀ R : It → Hp → Prop, R J H1 → wi σ H R) (w : Walk J n G Y) (Pv : Nat → L2.St → Hp → Prop)
    (h0 : Pv 0 σ H1) (hG : ∀ i σ H, i ≤ n → Pv i σ H → G H)
    (hs : ∀ i x σ H H', i < n → Pv i σ H → Y i H x H' → g x σ H' fun σ2 H2 => tb { D with nx := Pv (i + 1), ct := Pv (i + 1), bk := D.nx } σ2 H2) (hd : ∀ σ H, Pv n σ H → D.nx σ H) : tFor wi g tb D σ H :=
  hw _ (for_it w Pv h0 hG hs hd)
/-- a comprehension over a walk, one plain name, no test: Pv by the turn, the items made and the heap; the new list stands at D, told apart -/
theorem rd_lc {wi : TI} {i : Nat} {te : TE} {vs : List Nat} {σ : L2.St} {H H1 : Hp} {J : It} {n : Nat} {G : Hp → Prop} {Y : Nat → Hp → V → Hp → Prop} {Q : VK} (hw : ∀ R : It → Hp → Prop, R J H1 → wi σ H R) (w : Walk J n G Y)
    (Pv : Nat → List V → Hp → Prop) (h0 : ∀ D, H1 D = none → Pv 0 [] (upd H1 D (.lst [])))
    (hk : ∀ D i acc y H, H1 D = none → H D = some (.lst acc) → Pv i (acc ++ [y]) H → Pv i (acc ++ [y]) (upd H D (.lst (acc ++ [y]))))
    (hG : ∀ i acc H, i ≤ n → Pv i acc H → G H) (hl : n < sizeLine)
    (hv : ∀ x, wipe ((wipe σ vs).set i (some x)) vs = wipe σ vs)
    (hs : ∀ D j x acc H H' (R : VK), H1 D = none → j < n → acc.length = j → Pv j acc H → H D = some (.lst acc) → Y j H x H' →
      (∀ y H4, H4 D = some (.lst acc) → Pv (j + 1) (acc ++ [y]) H4 → R y H4) → te ((wipe σ vs).set i (some x)) H' R)
    (hd : ∀ D acc H, H1 D = none → acc.length = n → Pv n acc H → H D = some (.lst acc) → Q (.ref D) H) : tLc wi (gName i) tYes te vs σ H Q := by
  refine hw _ fun D hD => ?_
  refine lc_it w (fun j H => ∃ acc, acc.length = j ∧ H D = some (.lst acc) ∧ Pv j acc H) ⟨[], rfl, upd_same, h0 D hD⟩ (fun j H hj ⟨acc, _, _, p⟩ => hG j acc H hj p) ?_ ?_
  · intro j x H' H'' hj ⟨acc, ha, hD2, p⟩ y
    refine ⟨hv x, ?_⟩
    simp only [tYes, if_true]
    refine hs D j x acc H' H'' _ hD hj ha p hD2 y fun y' H4 z1 z2 => ?_
    exact ⟨acc, z1, by omega, acc ++ [y'], by rw [List.length_append, ha]; rfl, upd_same, hk D _ acc y' H4 hD z1 z2⟩
  · intro H' ⟨acc, ha, hD2, p⟩
    exact hd D acc H' hD ha p hD2
/-- a comprehension whose items touch nothing: the list zs is made at a new place -/
theorem rd_lc_pure {wi : TI} {i : Nat} {te : TE} {vs : List Nat} {σ : L2.St} {H H1 : Hp} {J : It} {G : Hp → Prop} {Y : Nat → Hp → V → Hp → Prop} {Q : VK} (zs : List V) (hw : ∀ R : It → Hp → Prop, R J H1 → wi σ H R) (w : Walk J zs.length G Y)
    (hG : ∀ D o, H1 D = none → G (upd H1 D o)) (hl : zs.length < sizeLine) (hv : ∀ x, wipe ((wipe σ vs).set i (some x)) vs = wipe σ vs)
    (hs : ∀ D j x z H' H'' (R : VK), H1 D = none → zs[j]? = some z → H' = upd H1 D (.lst (zs.take j)) → Y j H' x H'' → R z H'' → te ((wipe σ vs).set i (some x)) H'' R)
    (hd : ∀ D, H1 D = none → Q (.ref D) (upd H1 D (.lst zs))) (hY : ∀ j H' x H'', Y j H' x H'' → H'' = H') : tLc wi (gName i) tYes te vs σ H Q := by
  have one : ∀ {D D2 : Addr} {o : HO} {u : HO}, H1 D = none → upd H1 D2 o D = some u → D = D2 := fun {D D2 o u} h1 h2 => by
    by_cases c : D = D2
    · exact c
    · rw [upd_ne c, h1] at h2; cases h2
  refine rd_lc hw w (fun j acc H' => ∃ D acc0, H1 D = none ∧ H' = upd H1 D (.lst acc0) ∧ acc = zs.take j) (fun D hD => ⟨D, [], hD, rfl, by simp⟩) ?_ ?_ hl hv ?_ ?_
  · rintro D j acc y H' hD hD2 ⟨D2, acc0, hD3, rfl, e⟩
    have e2 := one hD hD2
    subst e2
    exact ⟨D, _, hD, upd_upd, e⟩
  · rintro j acc H' _ ⟨D, acc0, hD, rfl, _⟩
    exact hG D _ hD
  · rintro D j x acc H' H'' R hD hj ha ⟨D2, acc0, hD3, rfl, rfl⟩ hD2 y go
    have e2 := one hD hD2
    subst e2
    rw [upd_same] at hD2
    cases hD2
    have e3 := hY _ _ _ _ y
    subst e3
    refine hs D j x zs[j] _ _ R hD (List.getElem?_eq_getElem hj) rfl y ?_
    exact go zs[j] _ upd_same ⟨D, _, hD, rfl, by rw [List.take_add_one, List.getElem?_eq_getElem hj]; rfl⟩
  · rintro D acc H' hD ha ⟨D2, acc0, hD3, rfl, rfl⟩ hD2
    have e2 := one hD hD2
    subst e2
    rw [upd_same] at hD2
    cases hD2
    rw [List.take_length]
    exact hd D hD
theorem same_at {H H' : Hp} {p : Addr} {o : HO} (h : H p = none) (s : Same H H') : Same H (upd H' p o) := fun b u e => by
  have n : b ≠ p := fun z => by rw [z, h] at e; cases e
  rw [upd_ne n]
  exact s b u e
/-- a comprehension whose items only lay new things: the list zs is made -/
theorem rd_lc_same {wi : TI} {i : Nat} {te : TE} {vs : List Nat} {σ : L2.St} {H H1 : Hp} {J : It} {G : Hp → Prop} {Y : Nat → Hp → V → Hp → Prop} {Q : VK} (zs : List V) (hw : ∀ R : It → Hp → Prop, R J H1 → wi σ H R) (w : Walk J zs.length G Y)
    (hG : ∀ H', Same H1 H' → G H') (hl : zs.length < sizeLine) (hv : ∀ x, wipe ((wipe σ vs).set i (some x)) vs = wipe σ vs)
    (hs : ∀ j x z H' H'' (R : VK), zs[j]? = some z → Same H1 H' → Y j H' x H'' → (∀ H4, Same H'' H4 → R z H4) → te ((wipe σ vs).set i (some x)) H'' R)
    (hd : ∀ D H', H1 D = none → Same H1 H' → H' D = some (.lst zs) → Q (.ref D) H') (hY : ∀ j H' x H'', Y j H' x H'' → Same H' H'') : tLc wi (gName i) tYes te vs σ H Q := by
  refine rd_lc hw w (fun j acc H' => Same H1 H' ∧ acc = zs.take j) (fun D hD => ⟨same_new hD, by simp⟩) ?_ ?_ hl hv ?_ ?_
  · rintro D j acc y H' hD hD2 ⟨s, e⟩
    exact ⟨same_at hD s, e⟩
  · rintro j acc H' _ ⟨s, _⟩
    exact hG _ s
  · rintro D j x acc H' H'' R hD hj ha ⟨s, rfl⟩ hD2 y go
    refine hs j x zs[j] _ _ R (List.getElem?_eq_getElem hj) s y fun H4 s4 => ?_
    have s5 := (hY _ _ _ _ y).trans s4
    exact go zs[j] _ (s5 _ _ hD2) ⟨s.trans s5, by rw [List.take_add_one, List.getElem?_eq_getElem hj]; rfl⟩
  · rintro D acc H' hD ha ⟨s, rfl⟩ hD2
    rw [List.take_length] at hD2
    exact hd D H' hD s hD2
/-- a comprehension with a test whose items touch nothing -/
theorem rd_lc_filter {wi : TI} {i : Nat} {tt : TT} {te : TE} {vs : List Nat} {σ : L2.St} {H H1 : Hp} {J : It} {G : Hp → Prop} {Q : VK} (xs : List V) (p : V → Bool) (f : V → V) (hw : ∀ R : It → Hp → Prop, R J H1 → wi σ H R) (w : Walk J xs.length G (YAt xs))
    (hG : ∀ D o, H1 D = none → G (upd H1 D o)) (hl : xs.length < sizeLine) (hv : ∀ x, wipe ((wipe σ vs).set i (some x)) vs = wipe σ vs)
    (ht : ∀ x H' (R : Bool → Hp → Prop), x ∈ xs → R (p x) H' → tt ((wipe σ vs).set i (some x)) H' R)
    (hs : ∀ x H' (R : VK), x ∈ xs → p x = true → R (f x) H' → te ((wipe σ vs).set i (some x)) H' R)
    (hd : ∀ D, H1 D = none → Q (.ref D) (upd H1 D (.lst ((xs.filter p).map f)))) : tLc wi (gName i) tt te vs σ H Q := by
  refine hw _ fun D hD => ?_
  refine lc_it w (fun j H' => H' = upd H1 D (.lst (((xs.take j).filter p).map f))) (by simp) (fun j H' hj e => by rw [e]; exact hG D _ hD) ?_ ?_
  · rintro j x H' H'' hj rfl ⟨rfl, hx⟩
    have hm : x ∈ xs := List.mem_of_getElem? hx
    have et : xs.take (j + 1) = xs.take j ++ [x] := by rw [List.take_add_one, hx]; rfl
    refine ⟨hv x, ht x _ _ hm ?_⟩
    cases e : p x with
    | true =>
      refine iteT (hs x _ _ hm e ⟨_, upd_same, ?_, ?_⟩)
      · rw [List.length_map]
        exact Nat.lt_of_le_of_lt (Nat.le_trans (List.length_filter_le _ _) (by rw [List.length_take]; exact Nat.min_le_right _ _)) hl
      · rw [upd_upd, et, List.filter_append, List.map_append]
        simp [e]
    | false =>
      refine iteF ?_
      rw [et, List.filter_append]
      simp [e]
  · rintro H' rfl
    rw [List.take_length]
    exact hd D hD
end FK

/-! Own kit: methods of own classes bundled with where they stand, calls of them, instances made. -/
namespace FK
open PySem PySem.Spec PyProof.Rows L2
section
variable {P : Program} {w : World} {K : PySem.W.Frag} {mg : Str → Option Value} {base : Heap}
/-- the method m (with its full name q) of the class at C is the def of the statement st -/
def MAt (K : PySem.W.Frag) (C : Addr) (m q : Str) (st : Stmt) (ps : List Str) : Prop :=
  ∃ (f : Addr) (fd : FuncData), Fun K m q st f fd ∧ Meth K C m f ∧ Binds K fd ps []
/-- the same of __init__ -/
def IAt (K : PySem.W.Frag) (C : Addr) (q : Str) (st : Stmt) (ps : List Str) : Prop :=
  ∃ (f : Addr) (fd : FuncData), Fun K "__init__" q st f fd ∧ Mk K C f ∧ Binds K fd ps []
def MHas (P : Program) (w : World) (K : PySem.W.Frag) (mg : Str → Option Value) (base : Heap) (CX : CXT) (k : Nat) (C : Addr) (m : Str) (ps : List Str) (sp : Sp) : Prop :=
  ∃ (f : Addr) (fd : FuncData), FnOk P w K mg base CX k f fd ps sp ∧ Meth K C m f ∧ Binds K fd ps []
def IHas (P : Program) (w : World) (K : PySem.W.Frag) (mg : Str → Option Value) (base : Heap) (CX : CXT) (k : Nat) (C : Addr) (ps : List Str) (sp : Sp) : Prop :=
  ∃ (f : Addr) (fd : FuncData), FnOk P w K mg base CX k f fd ps sp ∧ Mk K C f ∧ Binds K fd ps []
theorem MHas.mono {CX : CXT} {j k : Nat} {C : Addr} {m : Str} {ps : List Str} {sp : Sp} (h : MHas P w K mg base CX j C m ps sp) (hk : j ≤ k) : MHas P w K mg base CX k C m ps sp := by
  obtain ⟨f, fd, h1, h2⟩ := h
  exact ⟨f, fd, h1.mono hk, h2⟩
theorem MAt.ok {C : Addr} {m q : Str} {st : Stmt} {N ps : List Str} {k : Nat} {sp : Sp} (D : MAt K C m q st ps) (S : FnScope N ps (defScope st)) (len : ∀ vs H Q E, sp vs H Q E → vs.length = ps.length)
    (hbody : ∀ (f : Addr) (cdv : Value) (A : Around) (outer : List Env) (s : Shared) (H : Hp) (vs : List V) (Q : VK) (E : XK), Room k (A.deeper (envOfC q (defScope st) s.heap.objs.size f cdv)) → sp vs H Q E →
      ∃ t, PSs (cxOf CX0 P w K mg base N q (defScope st) f cdv A outer s H E).nox (defBody st) t ∧ t { nx := fun _ H' => Q .non H', rt := Q } (start N vs) H) : MHas P w K mg base CX0 (k + 1) C m ps sp := by
  obtain ⟨f, fd, F, g, b⟩ := D
  exact ⟨f, fd, F.ok S len (hbody f), g, b⟩
theorem MAt.okX {C : Addr} {m q : Str} {st : Stmt} {N ps : List Str} {k : Nat} {sp : Sp} (D : MAt K C m q st ps) (S : FnScope N ps (defScope st)) (len : ∀ vs H Q E, sp vs H Q E → vs.length = ps.length)
    (hbody : ∀ (f : Addr) (cdv : Value) (A : Around) (outer : List Env) (s : Shared) (H : Hp) (vs : List V) (Q : VK) (E : XK), Room k (A.deeper (envOfC q (defScope st) s.heap.objs.size f cdv)) → sp vs H Q E →
      ∃ t, PSs (cxOf (L2.CX P w) P w K mg base N q (defScope st) f cdv A outer s H E) (defBody st) t ∧ t { nx := fun _ H' => Q .non H', rt := Q } (start N vs) H) : MHas P w K mg base (L2.CX P w) (k + 1) C m ps sp := by
  obtain ⟨f, fd, F, g, b⟩ := D
  exact ⟨f, fd, F.okX S len (hbody f), g, b⟩
theorem IAt.ok {C : Addr} {q : Str} {st : Stmt} {N ps : List Str} {k : Nat} {sp : Sp} (D : IAt K C q st ps) (S : FnScope N ps (defScope st)) (len : ∀ vs H Q E, sp vs H Q E → vs.length = ps.length)
    (hbody : ∀ (f : Addr) (cdv : Value) (A : Around) (outer : List Env) (s : Shared) (H : Hp) (vs : List V) (Q : VK) (E : XK), Room k (A.deeper (envOfC q (defScope st) s.heap.objs.size f cdv)) → sp vs H Q E →
      ∃ t, PSs (cxOf CX0 P w K mg base N q (defScope st) f cdv A outer s H E).nox (defBody st) t ∧ t { nx := fun _ H' => Q .non H', rt := Q } (start N vs) H) : IHas P w K mg base CX0 (k + 1) C ps sp := by
  obtain ⟨f, fd, F, g, b⟩ := D
  exact ⟨f, fd, F.ok S len (hbody f), g, b⟩
end
section
variable {X : Cx} {k : Nat} {x m : Str} {C : Addr} {ps : List Str} {sp : Sp} {p pos apos : Pos} {o e : Expr} {es : List Expr} {t : TA} {ta : TE}
/-- o.m(e, ..) -/
theorem pe_m {CX : CXT} {E : XK} {pl : Sem Bool} (he : PE X o ta) (c : Cls X.K C) (h : MHas X.prog X.w X.K X.mg X.base CX k C m ps sp) (hr : Room k X.A) (hx : Passes CX X E) (ha : PA X (e :: es) t)
    (hst : starEach (e :: es) X.env = (false, eval e X.env) :: starEach es X.env := by rfl) (hpl : (backTo pos (starEach es X.env)).any (·.1) = false := by rfl)
    (ht : eval (.Call (.Attribute o m apos) (e :: es) [] pos) X.env = (do
      let ov ← eval o X.env
      standAt apos.atName
      let (f, first) ← holding [ov] (getMethod ov m pl)
      callWith pos f first (backTo pos (starEach (e :: es) X.env)) (backToKw pos (keywordEach [] X.env))) := by rfl) :
    PE X (.Call (.Attribute o m apos) (e :: es) [] pos) (tMeth C m sp [] E ta t) := by
  obtain ⟨f, fd, F, g, b⟩ := h
  exact pe_meth he c g F hr b .nil hx ha hst hpl ht
theorem pe_m0 {CX : CXT} {E : XK} {pl : Sem Bool} (he : PE X o ta) (c : Cls X.K C) (h : MHas X.prog X.w X.K X.mg X.base CX k C m ps sp) (hr : Room k X.A) (hx : Passes CX X E)
    (ht : eval (.Call (.Attribute o m apos) [] [] pos) X.env = (do
      let ov ← eval o X.env
      standAt apos.atName
      let (f, first) ← holding [ov] (getMethod ov m pl)
      callWith pos f first (backTo pos (starEach [] X.env)) (backToKw pos (keywordEach [] X.env))) := by rfl) :
    PE X (.Call (.Attribute o m apos) [] [] pos) (tMeth C m sp [] E ta tNil) := by
  obtain ⟨f, fd, F, g, b⟩ := h
  exact pe_meth0 he c g F hr b .nil hx ht
/-- C(e, ..) -/
theorem pe_i {CX : CXT} {E : XK} (h : IHas X.prog X.w X.K X.mg X.base CX k C ps sp) (hr : Room (k + 1) X.A) (hm : X.mg x = some (.ref C)) (hx : Passes CX X E) (ha : PA X (e :: es) t) (hg : Gl X x := by rfl)
    (hdb : (x == ("__debug__" : Str)) = false := by decide) (he : starEach (e :: es) X.env = (false, eval e X.env) :: starEach es X.env := by rfl) (hpl : (backTo pos (starEach es X.env)).any (·.1) = false := by rfl) :
    PE X (.Call (.Name x p) (e :: es) [] pos) (tMake C sp [] E t) := by
  obtain ⟨f, fd, F, M, b⟩ := h
  exact pe_make M F hr hg hm b .nil hx ha hdb he hpl
end
section
variable {K : PySem.W.Frag} {mg : Str → Option Value} {h : Heap}
theorem mat_mk {C : Addr} {m q : Str} {st : Stmt} {ps : List Str} {f : Addr} {oc : Value} {od an : Option Addr} {osl : Array (Option Value)} {kV doc pm cdv ct : Value}
    (a : PySem.W.findIn K (.ref C) m = some (some (.ref f))) (i : PySem.W.isFn K (.ref f) = true)
    (l : K.lookup f = some ⟨oc, od, .func (PySem.W.fnOf m q (defArgs st) (defBody st) (defScope st) .none kV doc pm an cdv ct), osl⟩) (c : PySem.W.codeIn K cdv q = true) (k : PySem.W.keepIn K (.ref f) = true)
    (b : ∀ (kV doc pm : Value) (an : Option Addr) (cdv ct : Value) (us : List Value), us.length = ps.length → bindArgs (PySem.W.fnOf m q (defArgs st) (defBody st) (defScope st) .none kV doc pm an cdv ct) ⟨us, []⟩ = pure (ps.zip us)) : MAt K C m q st ps :=
  ⟨f, _, fun_mk (st := st) l c k, ⟨a, i, k⟩, Binds.all fun us hl => b _ _ _ _ _ _ us hl⟩
theorem noattr_mk {C : Addr} {f : Str} (h : PySem.W.findIn K (.ref C) f = some none) : NoAttr K C f := h
theorem iat_mk {C : Addr} {q : Str} {st : Stmt} {ps : List Str} {f : Addr} {oc : Value} {od an : Option Addr} {osl : Array (Option Value)} {kV doc pm cdv ct : Value}
    (mk : PySem.W.makesIn K C = true) (a : PySem.W.findIn K (.ref C) "__init__" = some (some (.ref f))) (i : PySem.W.isFn K (.ref f) = true) (kc : PySem.W.keepIn K (.ref C) = true)
    (l : K.lookup f = some ⟨oc, od, .func (PySem.W.fnOf "__init__" q (defArgs st) (defBody st) (defScope st) .none kV doc pm an cdv ct), osl⟩) (c : PySem.W.codeIn K cdv q = true) (k : PySem.W.keepIn K (.ref f) = true)
    (b : ∀ (kV doc pm : Value) (an : Option Addr) (cdv ct : Value) (us : List Value), us.length = ps.length → bindArgs (PySem.W.fnOf "__init__" q (defArgs st) (defBody st) (defScope st) .none kV doc pm an cdv ct) ⟨us, []⟩ = pure (ps.zip us)) : IAt K C q st ps :=
  ⟨f, _, fun_mk (st := st) l c k, ⟨mk, a, i, kc⟩, Binds.all fun us hl => b _ _ _ _ _ _ us hl⟩
end
end FK

/-! Own rules: a text backwards, the least text of a list, zip of a text and a tuple. -/
namespace FK
open PySem PySem.Spec PyProof.Rows L2
/-! ### z[::-1], z a text -/
def revS (z : Str) : Str := ⟨z.cps.toList.reverse.toArray⟩
def tRevS (te : TE) : TE := fun σ H Q => te σ H fun x H1 => ∃ z, x = .str z ∧ z.length ≤ sizeLine ∧ Q (.str (revS z)) H1
theorem revS_pick (z : Str) : (⟨((Builtin.Str.strSliceIndices none none (-1) z.length).filterMap (z.cps[·]?)).toArray⟩ : Str) = revS z := by
  have e : Builtin.Str.strSliceIndices none none (-1) z.length = (List.range z.cps.size).reverse := by
    show sliceRange ((z.length : Int) - 1) (-1) (-1) = _
    rw [PySem.W.krv_sliceRange, PySem.W.krv_range]
    rfl
  rw [e, List.filterMap_reverse, PySem.W.krv_all]
  rfl
theorem pe_revS {X : Cx} {e : Expr} {te : TE} {k : Nat} {p1 p2 p3 pos : Pos} (he : PE X e te) : PE X (.Subscript e (.Slice none none (some (.UnaryOp .USub (.Constant (.int 1) k p1) p2)) p3) pos) (tRevS te) := by
  refine ⟨fun pins s σ H Q I h => ?_⟩
  refine Subscript_ (thn (he.run pins s σ H _ I h) fun v s1 ⟨x, H1, I1, r1, q1⟩ => ?_)
  obtain ⟨z, ex, hz, q⟩ := q1
  subst ex
  obtain ⟨tz, rfl⟩ := r1
  have hst : PO X (some (.UnaryOp .USub (.Constant (.int 1) k p1) p2)) (tPart (tUn (rU fun i => .int (-i)) (tC (.int 1)))) := po_some (pe_un un_neg pe_int)
  refine wpAny_Slice (thn (po_none.run pins s1 σ H1 (fun o H2 => o = none ∧ H2 = H1) I1 ⟨rfl, rfl⟩) fun vl s2 ⟨l, H2, I2, pl, el, e2⟩ => ?_)
  subst el e2
  refine thn (po_none.run pins s2 σ H2 (fun o H3 => o = none ∧ H3 = H2) I2 ⟨rfl, rfl⟩) fun vu s3 ⟨u, H3, I3, pu, eu, e3⟩ => ?_
  subst eu e3
  refine thn (hst.run pins s3 σ H3 (fun o H4 => o = some (-1) ∧ H4 = H3) I3 ⟨1, rfl, -1, rfl, rfl, rfl⟩) fun vs s4 ⟨o, H4, I4, ps, eo, e4⟩ => ?_
  subst eo e4
  have I5 : Inv X pins σ H4 { s4 with heap := s4.heap.push { cls := .type "slice", data := .fields #[vl, vu, vs] } } := I4.kept (t' := s4.toks) fun b ob q => Heap.get?_push_of_some _ q
  show wpAny (model X.prog X.w) X.A (subscriptTail e (.Slice none none (some (.UnaryOp .USub (.Constant (.int 1) k p1) p2)) p3) (.str z tz) (.ref s4.heap.objs.size)) (EP X pins σ Q) X.xe { s4 with heap := s4.heap.push { cls := .type "slice", data := .fields #[vl, vu, vs] } }
  refine tail_any (ops := [.str z tz, .ref s4.heap.objs.size]) (typeIs_str _ _ _) PySem.F.slot_str_getitem.lookup ?_ (by with_unfolding_all rfl)
  obtain ⟨l, rfl, hl⟩ := IsPart.raw pl
  obtain ⟨u, rfl, hu⟩ := IsPart.raw pu
  obtain ⟨st, rfl, hs⟩ := IsPart.raw ps
  have el : l = none := by cases l <;> simp_all
  have eu : u = none := by cases u <;> simp_all
  subst el eu
  refine wpAny_getItem_str_slice (l := none) (u := none) (st := st) ⟨_, Heap.get?_push_size _ rfl, rfl, rfl⟩ (by rw [hs]; rfl) ?_
  have e1 : (st.map (·.1)).getD 1 = (-1 : Int) := by rw [hs]; rfl
  have hne : ¬ (((st.map (·.1)).getD 1 == 1 && (slicePicked z none none st).length == z.length) = true) := by rw [e1]; simp
  have ep : (⟨((slicePicked z none none st).filterMap (z.cps[·]?)).toArray⟩ : Str) = revS z := by
    rw [← revS_pick z]
    unfold slicePicked
    rw [e1]
    rfl
  unfold sliceMade
  rw [if_neg hne, ep]
  exact ⟨by show (z.cps.toList.reverse.toArray.size) ≤ sizeLine; rw [List.size_toArray, List.length_reverse, Array.length_toList]; exact hz, .str _, H4, I5.tok _, ⟨_, rfl⟩, q⟩
/-! ### min(xs), xs a list of texts -/
def txts (xs : List Str) (i : Nat) : List Nat := (xs.getD i Str.empty).cps.toList
theorem strs_lt {prog : Program} {w : World} {A : Around} {P : Nat → Value → Prop} (val : Nat → Str) (hval : ∀ i v, P i v → ∃ t, v = .str (val i) t) :
    CmpOf prog w A .Lt P (fun i j => decide ((val i).cps.toList < (val j).cps.toList)) := fun i j vi vj s Q E hi hj h => by
  obtain ⟨t, rfl⟩ := hval i vi hi
  obtain ⟨u, rfl⟩ := hval j vj hj
  exact richCompare_gives (op := .Lt) (typeIs_str s _ t) (typeIs_str s _ u) PySem.F.slot_str_lt PySem.F.entry_str_lt (PySem.F.args_str_lt_2 _ _) (gives_str_lt _ _ t u) (fun x => nomatch x) h
theorem argBest_le (bt : Nat → Nat → Bool) (k : Nat) : argBest bt k ≤ k := by
  induction k with
  | zero => exact Nat.le_refl _
  | succ k ih =>
    show (if bt (k + 1) (argBest bt k) then k + 1 else argBest bt k) ≤ k + 1
    split
    · exact Nat.le_refl _
    · omega
theorem argBest_str (val : Nat → List Nat) (k : Nat) : ∀ j, j ≤ k → ¬ val j < val (argBest (fun i j => decide (val i < val j)) k) := by
  induction k with
  | zero => intro j hj; obtain rfl : j = 0 := by omega
            exact List.lt_irrefl _
  | succ k ih =>
    intro j hj
    show ¬ val j < val (if decide (val (k + 1) < val (argBest (fun i j => decide (val i < val j)) k)) = true then k + 1 else argBest (fun i j => decide (val i < val j)) k)
    split
    · rename_i c
      have c := of_decide_eq_true c
      rcases Nat.lt_or_ge k j with h | h
      · obtain rfl : j = k + 1 := by omega
        exact List.lt_irrefl _
      · exact fun h2 => ih j h (List.lt_trans h2 c)
    · rename_i c
      have c : ¬ val (k + 1) < _ := fun z => c (decide_eq_true z)
      rcases Nat.lt_or_ge k j with h | h
      · obtain rfl : j = k + 1 := by omega
        exact c
      · exact ih j h
def rMinS (K : PySem.W.Frag) : List V → Hp → VK → Prop := fun vs H Q => ∃ (a : Addr) (xs : List Str), vs = [V.ref a] ∧ SqL K H a (xs.map V.str) ∧ 0 < xs.length ∧
  ∀ m, m ∈ xs → (∀ y, y ∈ xs → ¬ y.cps.toList < m.cps.toList) → Q (.str m) H
theorem cr_minS {X : Cx} (hc : X.calm = true) : CallR X (.builtin "min") (rMinS X.K) := by
  intro pins s σ H vs us Q I r h
  obtain ⟨a, xs, rfl, hs, hne, q⟩ := h
  obtain ⟨its, rv, hl0, _⟩ := I.list hs
  have hl := hl0.isList
  rw [Vals.ref1 r]
  have hlen : its.length = xs.length := by rw [← rv.length, List.length_map]
  have hval : ∀ (i : Nat) (v : Value), its.toArray[i]? = some v → ∃ t, v = Value.str (xs.getD i Str.empty) t := fun i v e => by
    rw [List.getElem?_toArray] at e
    have hi : i < its.length := (List.getElem?_eq_some_iff.mp e).1
    have hx : (xs.map V.str)[i]? = some (.str (xs.getD i Str.empty)) := by
      rw [List.getElem?_map, List.getD_eq_getElem?_getD, List.getElem?_eq_getElem (by omega)]
      rfl
    obtain ⟨u, hu, ru⟩ := rv.get hx
    rw [e] at hu
    cases hu
    exact ru
  have hlt : a < s.heap.objs.size := by obtain ⟨_, e, _⟩ := hl; exact Heap.lt_size e
  have hsz : 0 < its.toArray.size := by rw [List.size_toArray]; omega
  refine call_min_walk (wpAny_pyIter_list hl ?_)
  refine ⟨_, _, _, _, _, _, _, rfl, Walks.list (A := X.A.in1) (I.ok.hd hc) _ a (Nat.ne_of_lt hlt) its.toArray, ⟨⟨_, Heap.get?_push_size _ rfl, rfl, rfl⟩, hl.push _⟩, fun b hb => ?_, hsz, strs_lt (fun i => xs.getD i Str.empty) hval, fun v h' tk hP hk => ?_⟩
  · show b < (s.heap.push _).objs.size
    rw [Heap.size_push]
    rcases List.mem_cons.mp hb with e | hb
    · rw [e]
      exact Nat.lt_succ_self _
    · rw [List.mem_singleton.mp hb]
      exact Nat.lt_succ_of_lt hlt
  · obtain ⟨t, rfl⟩ := hval _ v hP
    have b2 := argBest_str (fun i => (xs.getD i Str.empty).cps.toList) (its.toArray.size - 1)
    have b1 := argBest_le (fun i j => decide ((xs.getD i Str.empty).cps.toList < (xs.getD j Str.empty).cps.toList)) (its.toArray.size - 1)
    rw [List.size_toArray] at b1 b2 hsz ⊢
    refine ⟨.str _, H, I.kept (t' := tk) fun b u e => hk b u (fun hmem => ?_) (Heap.get?_push_of_some _ e), ⟨t, rfl⟩, q _ ?_ fun y hy => ?_⟩
    · have e1 : b = s.heap.objs.size := by simpa using hmem
      have e2 := Heap.lt_size e
      rw [e1] at e2
      exact absurd e2 (Nat.lt_irrefl _)
    · rw [List.getD_eq_getElem?_getD, List.getElem?_eq_getElem (show _ < xs.length by omega)]
      exact List.getElem_mem _
    · obtain ⟨i, hi, e⟩ := List.mem_iff_getElem.mp hy
      have e2 : xs.getD i Str.empty = y := by rw [List.getD_eq_getElem?_getD, List.getElem?_eq_getElem hi, ← e] <;> rfl
      have := b2 i (by omega)
      rw [e2] at this
      exact this
/-! ### zip(z, t), z a text and t a tuple -/
def ItzS (K : PySem.W.Frag) (x : Str) (b : Addr) : It :=
  ⟨fun i H => ∃ (ys : List V) (c : Nat) (y : V), SqT K H b ys ∧ x.cps[i]? = some c ∧ ys[i]? = some y,
    fun i H v H' => ∃ T c y, v = .ref T ∧ H T = none ∧ H' = upd H T (.tup [.str ⟨#[c]⟩, y]) ∧ x.cps[i]? = some c ∧ ∀ ys, SqT K H b ys → ys[i]? = some y,
    fun i H => ∃ ys : List V, SqT K H b ys ∧ i ≤ x.cps.size ∧ i ≤ ys.length ∧ (i = x.cps.size ∨ i = ys.length)⟩
structure ZA (z TI TO i1 i2 b : Addr) : Prop where
  a1 : TI ≠ z
  a2 : TO ≠ z
  a3 : TI ≠ TO
  a4 : TI ≠ i1
  a5 : i1 ≠ z
  a6 : i1 ≠ TO
  a7 : TI ≠ i2
  a8 : i2 ≠ z
  a9 : i2 ≠ TO
  b1 : i1 ≠ i2
  b2 : b ≠ z
  b3 : b ≠ TO
  b4 : b ≠ i1
  b5 : b ≠ i2
theorem za_of (n b : Nat) (h : b < n) : ZA (n + 4) (n + 2) (n + 3) n (n + 1) b :=
  ⟨(show (n + 2 : Nat) ≠ n + 4 by omega), (show (n + 3 : Nat) ≠ n + 4 by omega), (show (n + 2 : Nat) ≠ n + 3 by omega), (show (n + 2 : Nat) ≠ n by omega), (show (n : Nat) ≠ n + 4 by omega), (show (n : Nat) ≠ n + 3 by omega), (show (n + 2 : Nat) ≠ n + 1 by omega),
    (show (n + 1 : Nat) ≠ n + 4 by omega), (show (n + 1 : Nat) ≠ n + 3 by omega), (show (n : Nat) ≠ n + 1 by omega), (show (b : Nat) ≠ n + 4 by omega), (show (b : Nat) ≠ n + 3 by omega), (show (b : Nat) ≠ n by omega), (show (b : Nat) ≠ n + 1 by omega)⟩
theorem ZA.sep {z TI TO i1 i2 b : Addr} (D : ZA z TI TO i1 i2 b) : ZipSep2 z TI TO i1 i2 [i1] [i2, b] :=
  ⟨D.a1, D.a2, D.a3, D.a4, by simp, by simpa using D.a5.symm, by simpa using D.a6.symm, D.a7, by simp, by simpa using ⟨D.a8.symm, D.b2.symm⟩, by simpa using ⟨D.a9.symm, D.b3.symm⟩, by simpa using ⟨D.b1, D.b4.symm⟩, by simpa using D.b1.symm⟩
theorem turn_zipST {P : Program} {w : World} {K : PySem.W.Frag} {elts : List Expr} {kk : Nat} {tpos : Pos} {x : Str} {t : Tok} {b z TI TO i1 i2 : Addr} (D : ZA z TI TO i1 i2 b) :
    Turn P w K (.Tuple elts kk tpos) (ItzS K x b) [z, TI, TO, i1, i2] z (fun i h => IsZip h z TI TO .none ∧ IsTupOf2 h TI (.ref i1) (.ref i2) ∧ (∃ x y, IsTupOf2 h TO x y) ∧ h.IsStrIter i1 (strIterType x) x t i ∧ h.IsTupleIter i2 b i) where
  mem := by simp
  obj := fun i h st c hc => by
    obtain ⟨hz, hTI, ⟨x, y, hTO⟩, ⟨o1, e1, _, d1⟩, ⟨o2, e2, _, d2⟩⟩ := st
    have e' : c = z ∨ c = TI ∨ c = TO ∨ c = i1 ∨ c = i2 := by simpa using hc
    rcases e' with q | q | q | q | q
    · rw [q]; exact ⟨_, hz, fun v q => nomatch q⟩
    · rw [q]; exact ⟨_, hTI, fun v q => nomatch q⟩
    · rw [q]; exact ⟨_, hTO, fun v q => nomatch q⟩
    · rw [q]; exact ⟨o1, e1, fun v q => by rw [d1] at q; cases q⟩
    · rw [q]; exact ⟨o2, e2, fun v q => by rw [d2] at q; cases q⟩
  keep := fun i h h' st k => by
    obtain ⟨hz, hTI, ⟨x, y, hTO⟩, ⟨o1, e1, r1⟩, h2⟩ := st
    exact ⟨k z (by simp) _ hz, k TI (by simp) _ hTI, ⟨x, y, k TO (by simp) _ hTO⟩, ⟨o1, k i1 (by simp) o1 e1, r1⟩, h2.at fun o q => k i2 (by simp) o q⟩
  item := by
    intro X hP hw hK hc i pins s σ H E I hf st hg
    subst hP hw hK
    obtain ⟨hz, hTI, ⟨x0, y0, hTO⟩, h1, h2⟩ := st
    obtain ⟨ys, c, y, hqy, hcx, hy⟩ := hg
    obtain ⟨its2, rv2, p2, _⟩ := I.tuple hqy
    obtain ⟨u2, hu2, ru2⟩ := rv2.get hy
    have hzl : z < s.heap.objs.size := Heap.lt_size hz
    have hh : X.A.in1.handled = none := I.ok.hd hc
    have l1 : i < x.cps.size := (Array.getElem?_eq_some_iff.mp hcx).1
    have l2 : i < its2.toArray.size := by rw [List.size_toArray]; exact (List.getElem?_eq_some_iff.mp hu2).1
    have pT : s.heap.IsTuple b its2.toArray := p2
    refine wpAny_pyNext_zipD2_item D.sep (Draws.text hh i1 x t) (Draws.tuple hh i2 b D.b5 its2.toArray) hz hTI hTO h1 ⟨h2, pT⟩ l1 l2 fun x1 x2 h' tk y1 y2 z' TO' h1' h2' hT hsz hk => ?_
    obtain ⟨c', u1, hc', rfl⟩ := y1
    rw [hcx] at hc'
    cases hc'
    have e2 : x2 = u2 := by
      have : its2.toArray[i]? = some x2 := y2
      rw [List.getElem?_toArray, hu2] at this
      exact (Option.some.inj this).symm
    subst e2
    refine ⟨_, rfl, wpAny_letOwnedTupleGo_zip (s := { s with heap := h', toks := tk }) z' fun h'' z'' sb => ?_⟩
    have hT2 : h''.get? s.heap.objs.size = some { cls := .type "tuple", data := .seq #[.str ⟨#[c]⟩ u1, x2] } := (sb.2 _ (Nat.ne_of_gt hzl)).trans hT
    have new : ObjOk X.prog X.w (upd H s.heap.objs.size (.tup [.str ⟨#[c]⟩, y])) h'' s.heap.objs.size (.tup [.str ⟨#[c]⟩, y]) :=
      ⟨by show 2 ≤ sizeLine; decide, [.str ⟨#[c]⟩ u1, x2], .cons ⟨u1, rfl⟩ (.cons ru2 .nil), ⟨_, hT2, rfl, _, rfl⟩⟩
    have I1 : Inv X pins σ (upd H s.heap.objs.size (.tup [.str ⟨#[c]⟩, y])) { s with heap := h'', toks := tk } :=
      I.turnedNew (t' := tk) (ch := [z, TI, TO, i1, i2]) (fun c o hb q => (sb.2 c (fun q' => hb (by simp [q']))).trans (hk c o (fun q' => hb (by simp [q'])) (fun q' => hb (by simp [q'])) (fun q' => hb (by simp [q'])) (fun q' => hb (by simp [q'])) q)) hf (Nat.le_refl _) new
    refine ⟨.ref s.heap.objs.size, _, I1, rfl, ⟨_, c, y, rfl, I.hok.fresh (Nat.le_refl _), rfl, hcx, fun l hl => by rw [I.tuple_inj hl hqy]; exact hy⟩, ⟨z'', ?_, ⟨.str ⟨#[c]⟩ u1, x2, ?_⟩, ?_, ?_⟩, fun c hcm => ?_⟩
    · exact (sb.2 _ D.a1).trans (hk _ _ D.a1 D.a3 D.a4 D.a7 hTI)
    · exact (sb.2 _ D.a2).trans TO'
    · obtain ⟨o, ho, r⟩ := h1'
      exact ⟨o, (sb.2 _ D.a5).trans ho, r⟩
    · exact h2'.1.at fun o q => (sb.2 _ D.a8).trans q
    · have hlt : c < s.heap.objs.size := by
        have e' : c = z ∨ c = TI ∨ c = TO ∨ c = i1 ∨ c = i2 := by simpa using hcm
        rcases e' with q | q | q | q | q
        · rw [q]; exact hzl
        · rw [q]; exact Heap.lt_size hTI
        · rw [q]; exact Heap.lt_size hTO
        · rw [q]; obtain ⟨_, e1, _⟩ := h1; exact Heap.lt_size e1
        · rw [q]; obtain ⟨_, e2, _⟩ := h2; exact Heap.lt_size e2
      rw [upd_ne (Nat.ne_of_lt hlt)]
      exact (hf c hcm).1
  done := by
    intro X hP hw hK hc i pins s σ H E I hf st hg
    subst hP hw hK
    obtain ⟨hz, hTI, ⟨x0, y0, hTO⟩, h1, h2⟩ := st
    obtain ⟨ys, hqy, m1, m2, hend⟩ := hg
    obtain ⟨its2, rv2, p2, _⟩ := I.tuple hqy
    have l2 := rv2.length
    have hh : X.A.in1.handled = none := I.ok.hd hc
    have pT : s.heap.IsTuple b its2.toArray := p2
    exact wpAny_pyNext_zipD2_end D.sep (Draws.text hh i1 x t) (Draws.tuple hh i2 b D.b5 its2.toArray) hz hTI hTO h1 ⟨h2, pT⟩ m1 (by rw [List.size_toArray]; omega) (by rcases hend with e | e; exact .inl e; exact .inr (by rw [e, List.size_toArray]; exact l2)) fun h' tk hk =>
      ⟨rfl, I.turnedL (t' := tk) (ch := [z, TI, TO, i1, i2]) (fun c o hb q => hk c o (fun q' => hb (by simp [q'])) (fun q' => hb (by simp [q'])) (fun q' => hb (by simp [q'])) (fun q' => hb (by simp [q'])) q) hf⟩
  self := fun A i s Q E st h => wpAny_pyIter_zip st.1 h
def iZipST (K : PySem.W.Frag) (ta : TA) : TI := fun σ H R => ta σ H fun vs H1 => ∃ z b ys, vs = [.str z, .ref b] ∧ SqT K H1 b ys ∧ R (ItzS K z b) H1
theorem pi_zipST {X : Cx} {e e2 : Expr} {ta : TA} {p pos tpos : Pos} {elts : List Expr} {kk : Nat} (hg : Gl X "zip") (hm : X.mg "zip" = none) (ha : PA X [e, e2] ta)
    (hs : starEach [e, e2] X.env = (false, eval e X.env) :: starEach [e2] X.env := by rfl) (hpl : (backTo pos (starEach [e2] X.env)).any (·.1) = false := by rfl) :
    PI X (.Tuple elts kk tpos) (.Call (.Name "zip" p) [e, e2] [] pos) (iZipST X.K ta) := by
  refine ⟨fun pins s σ H R I h => ?_⟩
  refine Call_ (ld_blt I hg hm PyProof.Rows.boot_zip (PyProof.Rows.callWith_type1 (thn (ha.run pos pins s σ H _ I h) fun us s1 ⟨vs, H1, I1, r1, q1⟩ => ?_) hs hpl))
  obtain ⟨z, b, ys, ex, hqy, q⟩ := q1
  subst ex
  cases r1 with
  | cons r rr =>
    cases rr with
    | cons r' rr =>
      cases rr
      obtain ⟨t, rfl⟩ := r
      cases r'
      have fresh5 : ∀ c, c ∈ [s1.heap.objs.size + 4, s1.heap.objs.size + 2, s1.heap.objs.size + 3, s1.heap.objs.size, s1.heap.objs.size + 1] → FpOk X pins H1 c := fun c hcm => by
        have e' : c = s1.heap.objs.size + 4 ∨ c = s1.heap.objs.size + 2 ∨ c = s1.heap.objs.size + 3 ∨ c = s1.heap.objs.size ∨ c = s1.heap.objs.size + 1 := by simpa using hcm
        have hle : s1.heap.objs.size ≤ c := by
          rcases e' with z | z | z | z | z
          · rw [z]; exact Nat.le_add_right _ _
          · rw [z]; exact Nat.le_add_right _ _
          · rw [z]; exact Nat.le_add_right _ _
          · rw [z]; exact Nat.le_refl _
          · rw [z]; exact Nat.le_add_right _ _
        exact I1.fpOk hle (I1.hok.fresh hle)
      obtain ⟨its2, rv2, p2, _⟩ := I1.tuple hqy
      have pT : s1.heap.IsTuple b its2.toArray := p2
      have hb : b < s1.heap.objs.size := by obtain ⟨_, e, _⟩ := pT; exact Heap.lt_size e
      refine zip_begins2 (begins_text z t) (begins_tuple b its2.toArray) trivial pT fun h' hz hTI hTO h1 h2 hsz hk => wpAny_pyIter_zip hz ?_
      have I2 : Inv X pins σ H1 { s1 with heap := h' } := I1.kept (t' := s1.toks) hk
      have dd : ZA (s1.heap.objs.size + 4) (s1.heap.objs.size + 2) (s1.heap.objs.size + 3) s1.heap.objs.size (s1.heap.objs.size + 1) b := za_of _ _ hb
      exact ⟨s1.heap.objs.size + 4, [s1.heap.objs.size + 4, s1.heap.objs.size + 2, s1.heap.objs.size + 3, s1.heap.objs.size, s1.heap.objs.size + 1], _, _, H1, rfl, I2, turn_zipST (t := t) dd, ⟨hz, hTI, ⟨_, _, hTO⟩, ⟨_, h1, rfl, rfl⟩, ⟨_, h2, rfl, rfl⟩⟩, fresh5, q⟩
/-- a walk over zip of a text and a tuple of one length -/
theorem walk_zipST {K : PySem.W.Frag} {x : Str} {b : Addr} {ys : List V} (hl : ys.length = x.cps.size) :
    Walk (ItzS K x b) ys.length (fun H => SqT K H b ys) (fun i H v H' => ∃ T c y, v = .ref T ∧ H T = none ∧ H' = upd H T (.tup [.str ⟨#[c]⟩, y]) ∧ x.cps[i]? = some c ∧ ys[i]? = some y) where
  goes := fun i H hi h => by
    have h2 : i < x.cps.size := by omega
    exact ⟨ys, x.cps[i], ys[i], h, by simp [h2], by simp [hi]⟩
  stops := fun H h => ⟨ys, h, by omega, Nat.le_refl _, .inr rfl⟩
  yields := fun i H v H' hi h y => by
    obtain ⟨T, c, y, e, hT, e2, hc, hy⟩ := y
    exact ⟨T, c, y, e, hT, e2, hc, hy ys h⟩
end FK

/-! Own rule: text * int. -/
namespace FK
open PySem PySem.Spec PyProof.Rows L2
def repS (z : Str) (n : Nat) : Str := ⟨((List.replicate n z.cps.toList).flatten).toArray⟩
theorem rep_fold (n : Nat) (a acc : Array Nat) : ((List.replicate n a).foldl (· ++ ·) acc).toList = acc.toList ++ (List.replicate n a.toList).flatten := by
  induction n generalizing acc with
  | zero => simp
  | succ n ih =>
    rw [List.replicate_succ, List.foldl_cons, ih, List.replicate_succ, List.flatten_cons, Array.toList_append, List.append_assoc]
theorem repS_length (z : Str) (n : Nat) : (repS z n).length = z.length * n := by
  show ((List.replicate n z.cps.toList).flatten).toArray.size = _
  rw [List.size_toArray, List.length_flatten, List.map_replicate, List.sum_replicate_nat, Array.length_toList, Nat.mul_comm]
  rfl
def rRepS : V → V → Hp → VK → Prop := fun x y H Q => ∃ (z : Str) (n : Nat), x = .str z ∧ y = .int (n : Int) ∧ z.length * n ≤ sizeLine ∧ n < 2 ^ 62 ∧ Q (.str (repS z n)) H
theorem op_rep_str {X : Cx} : OpR X (binaryOp .Mult) rRepS := by
  intro pins s σ H x y v u Q I rx ry h
  obtain ⟨z, n, rfl, rfl, hz, hn, q⟩ := h
  obtain ⟨t, rfl⟩ := rx
  obtain ⟨t', rfl⟩ := ry
  have hsl : sizeLine = 16777216 := sizeLine_eq
  refine PySem.P.mul_str (by simp; omega) (fun h1 h2 => ?_) (fun h1 h2 => ?_) ?_
  · have hn0 : (0 : Int) < n := by omega
    have h3 : ((z.length : Nat) : Int) * (n : Int) ≤ 2 ^ 63 - 1 := by
      have : ((z.length * n : Nat) : Int) ≤ (sizeLine : Int) := by omega
      rw [Int.natCast_mul] at this
      omega
    have := Int.le_ediv_of_mul_le hn0 h3
    omega
  · rw [Int.toNat_natCast]
    exact decide_eq_false (fun h => absurd h (Nat.not_lt.mpr hz))
  · have done : ∀ tk : Nat, ∀ w : Str, w = repS z n → Q (.str w) H := fun _ w e => by rw [e]; exact q
    by_cases c1 : (n : Int) < 1
    · rw [if_pos c1]
      have e0 : n = 0 := by omega
      refine ⟨by decide, .str _, H, I.tok _, ⟨_, rfl⟩, ?_⟩
      have e : (Str.empty : Str) = repS z n := by rw [e0]; rfl
      rw [e]
      exact q
    · rw [if_neg c1]
      by_cases c2 : ((n : Int) == 1 || z.length == 0) = true
      · rw [if_pos c2]
        refine ⟨.str z, H, I, ⟨t, rfl⟩, ?_⟩
        have e : z = repS z n := by
          cases z with | mk a =>
          rw [Bool.or_eq_true] at c2
          rcases c2 with c2 | c2
          · have h1 : (n : Int) = 1 := eq_of_beq c2
            have : n = 1 := by omega
            subst this
            simp [repS]
          · have ha : a.size = 0 := eq_of_beq c2
            have ha2 : a = #[] := Array.eq_empty_of_size_eq_zero ha
            subst ha2
            simp [repS]
        rw [← e] at q
        exact q
      · rw [if_neg c2]
        have e : (⟨(List.replicate (n : Int).toNat z.cps).foldl (· ++ ·) #[]⟩ : Str) = repS z n := by
          have h1 := rep_fold n z.cps #[]
          rw [Int.toNat_natCast]
          unfold repS
          congr 1
          apply Array.toList_inj.mp
          rw [h1]
          simp
        rw [e]
        exact ⟨by rw [repS_length]; exact hz, .str _, H, I.tok _, ⟨_, rfl⟩, q⟩
end FK

/-! Own kit: calls of defs that may raise, where they do not. -/
namespace FK
open PySem PySem.Spec PyProof.Rows L2
theorem pass1 {X : Cx} : Passes (L2.CX X.prog X.w) X E0 := by
  intro pins σ H s e s' I h
  unfold L2.CX at h
  simp only [E0] at h
  first
  | exact h.elim
  | (obtain ⟨_, _, h⟩ := h; simp_all)
  | skip
theorem Has.imp {P : Program} {w : World} {K : PySem.W.Frag} {mg : Str → Option Value} {base : Heap} {CX : CXT} {k : Nat} {x : Str} {ps : List Str} {sp sp' : Sp} (h : Has P w K mg base CX k x ps sp) (hi : ∀ vs H Q E, sp' vs H Q E → sp vs H Q E) : Has P w K mg base CX k x ps sp' := by
  obtain ⟨f, fd, F, r⟩ := h
  exact ⟨f, fd, F.imp hi, r⟩
end FK

/-! Own kit: makings that may raise; dicts with texts as keys. -/
namespace FK
open PySem PySem.Spec PyProof.Rows L2
section
variable {P : Program} {w : World} {K : PySem.W.Frag} {mg : Str → Option Value} {base : Heap}
theorem IAt.okX {C : Addr} {q : Str} {st : Stmt} {N ps : List Str} {k : Nat} {sp : Sp} (D : IAt K C q st ps) (S : FnScope N ps (defScope st)) (len : ∀ vs H Q E, sp vs H Q E → vs.length = ps.length)
    (hbody : ∀ (f : Addr) (cdv : Value) (A : Around) (outer : List Env) (s : Shared) (H : Hp) (vs : List V) (Q : VK) (E : XK), Room k (A.deeper (envOfC q (defScope st) s.heap.objs.size f cdv)) → sp vs H Q E →
      ∃ t, PSs (cxOf (L2.CX P w) P w K mg base N q (defScope st) f cdv A outer s H E) (defBody st) t ∧ t { nx := fun _ H' => Q .non H', rt := Q } (start N vs) H) : IHas P w K mg base (L2.CX P w) (k + 1) C ps sp := by
  obtain ⟨f, fd, F, g, b⟩ := D
  exact ⟨f, fd, F.okX S len (hbody f), g, b⟩
end
end FK

/-! Own kit: an error that is caught is handed to a def without loops and raises. -/
namespace FK
open PySem PySem.Spec PyProof.Rows L2
/-- what such a def promises: a, cls and dd tell the error -/
abbrev SpE := Addr → Value → Option Addr → List V → Hp → VK → Prop
section
variable {P : Program} {w : World} {K : PySem.W.Frag} {mg : Str → Option Value} {base : Heap}
theorem run_defE {x q : Str} {pr : Arguments} {body : List Stmt} {sc : Scope} {N ps : List Str} {k : Nat} {f : Addr} {A : Around} {outer : List Env} {s : Shared} {H : Hp} {us : List Value} {vs : List V} {args : Args} {Q : VK} {kV doc pm cdv ct oc : Value} {an od : Option Addr} {osl : Array (Option Value)} {po : Addr × Obj}
    (lk : K.lookup f = some ⟨oc, od, .func (PySem.W.fnOf x q pr body sc .none kV doc pm an cdv ct), osl⟩) (hc : PySem.W.codeIn K cdv q = true)
    (S : FnScope N ps sc) (hr : L2H.RoomH (k + 1) A) (pk : L2H.PinOk outer H s po) (e0 : Env0 P w K mg base A outer s H) (hv : Vals vs us) (hl : vs.length = ps.length) (hb : BindsTo s (PySem.W.fnOf x q pr body sc .none kV doc pm an cdv ct) args (ps.zip us))
    {t : TS} (hp : PSs (L2H.cxH CX0 P w K mg base N q sc f cdv A outer s H E0 po) body t) (ht : t { nx := fun _ H' => Q .non H', rt := Q } (start N vs) H) :
    codeAny (model P w) A (.call (.ref f) args) (CR CX0 outer P w H s Q E0) s := by
  have up : ∀ {b : Addr} {o : Obj}, base.get? b = some o → s.heap.get? b = some o := fun {b o} e => (e0.bs b o e).1
  have inK : K.In s.heap := e0.mod.kin.keeps fun _ _ e => up e
  refine codeAny_call_function hr.depth (inK _ _ lk) rfl S.co S.gen rfl (PySem.W.codeRec_of inK hc) (hb _ _ _ _ ?_)
  refine wpAny_newFunctionEnv_cells S.kind (fun z hz => ?_) fun env he s1 C => ?_
  · rcases S.par z.1 (List.of_mem_zip (show (z.1, z.2) ∈ ps.zip us from hz)).1 with c | c
    · exact Or.inl c
    · exact Or.inr ⟨c, PySem.W.cellsFrom_some _ _ _ (Or.inl c)⟩
  · cases he
    have nl : s.heap.NoLimit := e0.mod.nolimit.keeps fun _ _ e => up e
    refine ⟨nl.keeps C.toInCall.keep, codeAny_func ?_⟩
    have I := L2H.inv_startH (CX := CX0) (qual := q) (f := f) (cd := cdv) (E := E0) S pk e0 hl hv C
    refine wpAny_mono (hp.run [] s1 (start N vs) H _ I ht) (fun fl s2 z => ?_) fun _ _ z => z
    cases fl with
    | ret u => obtain ⟨v, _, H2, J, rv, q⟩ := z; exact ⟨v, H2, J.os, J.bare, J.base, J.hok, rv, q⟩
    | next => obtain ⟨_, H2, J, q⟩ := z; exact ⟨.non, H2, J.os, J.bare, J.base, J.hok, rfl, q⟩
    | brk => exact False.elim (let ⟨_, _, _, q⟩ := z; q)
    | cont => exact False.elim (let ⟨_, _, _, q⟩ := z; q)
/-- the def of this name keeps the promise, called with the error that is handled -/
def EHas (P : Program) (w : World) (K : PySem.W.Frag) (mg : Str → Option Value) (base : Heap) (k : Nat) (x : Str) (ps : List Str) (sp : SpE) : Prop :=
  ∃ (f : Addr) (fd : FuncData), (∀ (A : Around) (outer : List Env) (s : Shared) (H : Hp) (args : Args) (us : List Value) (vs : List V) (Q : VK) (po : Addr × Obj) (cls : Value) (dd : Option Addr), L2H.RoomH k A → L2H.PinOk outer H s po → Zc cls dd po.2 → (∃ z, po.2.data = .fields z) →
    Env0 P w K mg base A outer s H → BindsTo s fd args (ps.zip us) → Vals vs us → vs.length = ps.length → sp po.1 cls dd vs H Q → codeAny (model P w) A (.call (.ref f) args) (CR CX0 outer P w H s Q E0) s) ∧
    mg x = some (.ref f) ∧ PySem.W.keepIn K (.ref f) = true ∧ Binds K fd ps []
theorem At.okE {x : Str} {st : Stmt} {N ps : List Str} {k : Nat} {sp : SpE} (D : At K mg x st ps) (S : FnScope N ps (defScope st))
    (hbody : ∀ (f : Addr) (cdv : Value) (A : Around) (outer : List Env) (s : Shared) (H : Hp) (vs : List V) (Q : VK) (a : Addr) (oe : Obj) (cls : Value) (dd : Option Addr), L2H.RoomH k (A.deeper (envOfC x (defScope st) s.heap.objs.size f cdv)) → Zc cls dd oe → (∃ z, oe.data = .fields z) → sp a cls dd vs H Q →
      ∃ t, PSs (L2H.cxH CX0 P w K mg base N x (defScope st) f cdv A outer s H E0 (a, oe)) (defBody st) t ∧ t { nx := fun _ H' => Q .non H', rt := Q } (start N vs) H) : EHas P w K mg base (k + 1) x ps sp := by
  obtain ⟨f, fd, F, g, b⟩ := D
  refine ⟨f, fd, fun A outer s H args us vs Q po cls dd hr pk hz hf e0 hb hv hl hs => ?_, g, F.kp, b⟩
  obtain ⟨oc, od, kV, doc, pm, an, cdv, ct, osl, rfl, lk, hc⟩ := F.ex
  obtain ⟨t, h1, h2⟩ := hbody f cdv A outer s H vs Q po.1 po.2 cls dd (hr.deeper _) hz hf hs
  exact run_defE lk hc S hr pk e0 hv hl hb h1 h2
end
section
variable {X : Cx} {k : Nat} {x : Str} {ps : List Str} {p pos : Pos} {e : Expr} {es : List Expr} {t : TA}
/-- f(e, ..) in the suite that holds the error a -/
theorem pe_hE {sp : SpE} {a : Addr} {oe : Obj} {cls : Value} {dd : Option Addr} {pn : List (Addr × Obj)} (hz : Zc cls dd oe) (hf : ∃ z, oe.data = .fields z) (h : EHas X.prog X.w X.K X.mg X.base k x ps sp) (hr : Room k X.A) (ha : PA (X.suite a ((a, oe) :: pn)) (e :: es) t) (hg : Gl X x := by rfl)
    (hdb : (x == ("__debug__" : Str)) = false := by decide) (he : starEach (e :: es) X.env = (false, eval e X.env) :: starEach es X.env := by rfl) (hpl : (backTo pos (starEach es X.env)).any (·.1) = false := by rfl) :
    PE (X.suite a ((a, oe) :: pn)) (.Call (.Name x p) (e :: es) [] pos) (fun σ H Q => t σ H fun vs H1 => vs.length = ps.length ∧ sp a cls dd vs H1 Q) := by
  obtain ⟨f, fd, F, gm, kp, bd⟩ := h
  constructor
  intro pins s σ H Q I hh
  apply wpAny_Call_Name_kw
  apply ld_glob I hg gm _ hdb
  refine PySem.W.callWith_K (h₀ := X.base) I.ok.mod.kin kp (thn (ha.run pos pins s σ H _ I hh) fun us s1 z => ?_) he hpl
  obtain ⟨vs, H1, J, rv, hl, q⟩ := z
  refine ⟨J.kIn, ?_⟩
  have P1 := J.pin (a, oe) (List.mem_append_left _ List.mem_cons_self)
  have pk : L2H.PinOk X.stack H1 s1 (a, oe) := by
    refine ⟨P1.1, P1.2.1, fun hm => ?_, P1.2.2.2.2⟩
    rcases List.mem_cons.mp (J.stkSub a hm) with z | z
    · exact P1.2.2.1 z
    · exact P1.2.2.2.1 z
  have lu : us.length = ps.length := by rw [← rv.length]; exact hl
  have bb := bd s1 us J.kIn (by rw [List.append_nil]; exact lu)
  rw [List.append_nil] at bb
  have run := F (X.suite a ((a, oe) :: pn)).A X.stack s1 H1 ⟨us, []⟩ us vs Q (a, oe) cls dd ⟨hr.dp, hr.un⟩ pk hz hf J.env0 bb rv hl q
  refine wpAny_call (codeAny_mono run fun r s2 z => ?_)
  match r, z with
  | .ok (.ret u), z => exact J.after z
  | .error _, z => exact False.elim z
  | .ok .next, z => exact False.elim z
  | .ok .brk, z => exact False.elim z
  | .ok .cont, z => exact False.elim z
/-- isinstance(e, c) of the error that every state bears -/
theorem call_isP {a : Addr} {oe : Obj} {cls : Value} {dd : Option Addr} (hz : Zc cls dd oe) (hf : ∃ z, oe.data = .fields z) (hp : (a, oe) ∈ X.pn) :
    CallR X (.builtin "isinstance") (fun xs H Q => ∃ D : Addr, cls = .ref D ∧ dd = none ∧ ExcC X.K D ∧ rIsE X.K D a xs H Q) := by
  rintro pins s σ H xs us Q I r ⟨D, rfl, rfl, C, c, cv, b, rfl, hcv, hk, q⟩
  obtain ⟨u, u2, rfl, r1, r2⟩ := vals2 r
  cases r1
  cases hcv _ r2
  have g := (I.pin (a, oe) (List.mem_append_left _ hp)).1
  obtain ⟨z, hzd⟩ := hf
  have J : PySem.W.InstAt s.heap a oe D none := by
    cases oe with
    | mk c1 d1 dt sl =>
      obtain ⟨h1, h2⟩ := hz
      simp only at h1 h2 hzd
      subst h1 h2 hzd
      exact ⟨g, rfl, rfl, trivial⟩
  have kx := PySem.W.handS_kitx_exc (x := a) (ox := oe) C.hg C.hk C.hs C.hd C.ha C.hn C.ht C.hm
  refine PySem.W.kia_one kx I.kIn J hk (fun z => nomatch z) fun tk => ?_
  exact ⟨.bl b, H, I.kept (t' := tk) fun _ _ z => z, rfl, q⟩
end
end FK

/-! Own kit: lists of texts compared. -/
namespace FK
open PySem PySem.Spec PyProof.Rows L2
theorem dpAll_strs {K : PySem.W.Frag} {H : Hp} : ∀ xs : List Str, DpAll K H (xs.map V.str) (xs.map PyData.str)
  | [] => .nil
  | x :: xs => .cons (.str x) (dpAll_strs xs)
theorem canLay_strs : ∀ xs : List Str, (∀ x ∈ xs, PyData.strOk x = true) → PyData.canLayAll0 (xs.map PyData.str) = true
  | [], _ => rfl
  | x :: xs, h => by
    simp only [List.map_cons, PyData.canLayAll0, PyData.canLay0, canLay_strs xs (fun y hy => h y (List.mem_cons_of_mem _ hy)), h x List.mem_cons_self, Bool.and_true]
theorem depth_strs : ∀ xs : List Str, PyData.depthAll (xs.map PyData.str) ≤ 2
  | [] => by simp only [List.map_nil, PyData.depthAll]; decide
  | x :: xs => by
    have := depth_strs xs
    simp only [List.map_cons, PyData.depthAll, PyData.depth]
    omega
theorem shaped_strs (xs : List Str) (h : ∀ x ∈ xs, PyData.strOk x = true) : SeqAt.shaped (.list (xs.map PyData.str)) = true := by
  unfold SeqAt.shaped
  rw [show PyData.canLay0 (.list (xs.map PyData.str)) = PyData.canLayAll0 (xs.map PyData.str) from rfl, canLay_strs xs h, Bool.true_and]
  refine decide_eq_true ?_
  have := depth_strs xs
  simp only [PyData.depth]
  omega
theorem eqv_strs : ∀ xs ys : List Str, PyData.eqvAll (xs.map PyData.str) (ys.map PyData.str) = decide (xs = ys)
  | [], [] => rfl
  | [], y :: ys => rfl
  | x :: xs, [] => rfl
  | x :: xs, y :: ys => by
    rw [List.map_cons, List.map_cons, PyData.eqvAll, eqv_strs xs ys, PyData.eqv]
    by_cases h : x = y
    · subst h
      simp
    · simp [h]
theorem eqD_strs {K : PySem.W.Frag} {H : Hp} {a b : Addr} {xs ys : List Str} {Q : VK} (ha : SqL K H a (xs.map V.str)) (hb : SqL K H b (ys.map V.str)) (hx : ∀ x ∈ xs, PyData.strOk x = true) (hy : ∀ x ∈ ys, PyData.strOk x = true) (q : Q (.bl (decide (xs = ys))) H) : rEqD K (.ref a) (.ref b) H Q :=
  ⟨_, _, .lst ha (dpAll_strs xs), .lst hb (dpAll_strs ys), shaped_strs xs hx, shaped_strs ys hy, by rw [PyData.eqv, eqv_strs]; exact q⟩
theorem neD_strs {K : PySem.W.Frag} {H : Hp} {a b : Addr} {xs ys : List Str} {Q : VK} (ha : SqL K H a (xs.map V.str)) (hb : SqL K H b (ys.map V.str)) (hx : ∀ x ∈ xs, PyData.strOk x = true) (hy : ∀ x ∈ ys, PyData.strOk x = true) (q : Q (.bl (!decide (xs = ys))) H) : rNeD K (.ref a) (.ref b) H Q :=
  ⟨_, _, .lst ha (dpAll_strs xs), .lst hb (dpAll_strs ys), shaped_strs xs hx, shaped_strs ys hy, by rw [PyData.eqv, eqv_strs]; exact q⟩
end FK

/-! Own kit: sum of a tuple of ints. -/
namespace FK
open PySem PySem.Spec PyProof.Rows L2
section
variable {prog : Program} {w : World} {A : Around} {E : Value → Shared → Prop} {s : Shared} {l : Addr} {xs : Array (Int × Tok)}
theorem sum_tupG {Q : Value → Shared → Prop} (hh : A.handled = none) (hl : s.heap.IsTuple l (intItems xs))
    (h : ∀ h' tk t', (∀ b o, s.heap.get? b = some o → h'.get? b = some o) → Q (.int (preSum (numAt xs) xs.size) t') { s with heap := h', toks := tk }) :
    wpAny (model prog w) A (call (.builtin "sum") [.ref l]) Q E s := by
  have lt : l < s.heap.objs.size := by
    obtain ⟨o, ho, _⟩ := hl
    exact Heap.lt_size ho
  refine call_sum_walkG (wpAny_pyIter_tuple hl ?_)
  refine ⟨_, _, _, _, _, _, numAt xs, rfl, Walks.tuple (A := A.in1) hh s.heap.objs.size l (Nat.ne_of_lt lt) (intItems xs), ⟨⟨_, Heap.get?_push_size _ rfl, rfl, rfl⟩, hl.push _⟩, fun c hc => ?_, (fun _ _ => intItems_at), fun h' tk t' hk => ?_⟩
  · show c < (s.heap.push _).objs.size
    rw [Heap.size_push]
    rcases List.mem_cons.mp hc with rfl | hc
    · exact Nat.lt_succ_self _
    · rw [List.mem_singleton.mp hc]
      exact Nat.lt_succ_of_lt lt
  · have := h h' tk t' fun b o e => hk b o (fun hm => by
      rw [List.mem_singleton.mp hm] at e
      exact Nat.lt_irrefl _ (Heap.lt_size e)) (Heap.get?_push_of_some _ e)
    simpa [intItems] using this
end
def rSumT (K : PySem.W.Frag) : List V → Hp → VK → Prop := fun vs H Q => ∃ (a : Addr) (ns : List Int), vs = [V.ref a] ∧ SqT K H a (ns.map V.int) ∧ Q (.int ns.sum) H
theorem cr_sumT {X : Cx} (hc : X.calm = true) : CallR X (.builtin "sum") (rSumT X.K) := by
  intro pins s σ H vs us Q I r h
  obtain ⟨a, ns, rfl, hs, q⟩ := h
  obtain ⟨its, rv, hl, _⟩ := I.tuple hs
  rw [Vals.ref1 r]
  have hi := rv.ints
  obtain ⟨xs, e⟩ := hi.allInts.items
  have hn : numsOf (intItems xs).toList = ns := by rw [← e]; exact hi.numsOf
  rw [nums_intItems] at hn
  rw [e] at hl
  refine sum_tupG (I.ok.hd hc) (show s.heap.IsTuple a _ from hl) fun h' tk t' hk => ⟨.int _, H, I.kept hk, ⟨_, rfl⟩, ?_⟩
  rw [preSum_eq, List.take_of_length_le (by simp), hn]
  exact q
end FK

/-! x in t, t a tuple of data of any depth. -/
namespace FK
open PySem PySem.Spec PyProof.Rows L2
theorem units65 {k : Nat} {A : Around} (r : Room k A) : A.units + 65 < cLine := by have := r.un; omega
section
variable {X : Cx}
def rInT (K : PySem.W.Frag) : R2 := fun x y H Q => ∃ d ds, Dp K H x d ∧ Dp K H y (.tuple ds) ∧ SeqAt.shaped d = true ∧ SeqAt.shaped (.list ds) = true ∧ Q (.bl (ds.any fun z => PyData.eqv z d)) H
def rNotInT (K : PySem.W.Frag) : R2 := fun x y H Q => ∃ d ds, Dp K H x d ∧ Dp K H y (.tuple ds) ∧ SeqAt.shaped d = true ∧ SeqAt.shaped (.list ds) = true ∧ Q (.bl (!ds.any fun z => PyData.eqv z d)) H
theorem op_inT (hu : X.A.units + 65 < cLine) : OpR X (compareOp .In) (rInT X.K) := by
  intro pins s σ H x y v u Q I rx ry h
  obtain ⟨d, ds, hd, he, sd, se, q⟩ := h
  obtain ⟨as, r1⟩ := Dp.reads I d x v hd rx
  obtain ⟨bs, r2⟩ := Dp.reads I (.tuple ds) y u he ry
  exact SeqAt.in_tuple_reads r2 r1 (SeqAt.canLay_of_shaped se) (SeqAt.canLay_of_shaped sd) (room_in_shaped sd hu) ⟨.bl _, H, I, rfl, q⟩
theorem op_notInT (hu : X.A.units + 65 < cLine) : OpR X (compareOp .NotIn) (rNotInT X.K) := by
  intro pins s σ H x y v u Q I rx ry h
  obtain ⟨d, ds, hd, he, sd, se, q⟩ := h
  obtain ⟨as, r1⟩ := Dp.reads I d x v hd rx
  obtain ⟨bs, r2⟩ := Dp.reads I (.tuple ds) y u he ry
  exact SeqAt.notIn_tuple_reads r2 r1 (SeqAt.canLay_of_shaped se) (SeqAt.canLay_of_shaped sd) (room_in_shaped sd hu) ⟨.bl _, H, I, rfl, q⟩
end
section
variable {K : PySem.W.Frag} {tl : TE} {g : TG} {tt : L2.TT} {te : TE} {vs : List Nat} {σ : L2.St} {H H1 : Hp} {Q : VK} {wi : TI} {J : It}
/-- what a comprehension goes over, made in its head -/
theorem lc_lst (h : tl σ H fun x H1 => ∃ a, x = .ref a ∧ (∃ xs, SqL K H1 a xs) ∧ tLc (fun _ _ R => R (Itl K a) H1) g tt te vs σ H Q) : tLc (iList K tl) g tt te vs σ H Q := h
theorem lc_str (h : tl σ H fun x H1 => ∃ z, x = .str z ∧ tLc (fun _ _ R => R (Its z) H1) g tt te vs σ H Q) : tLc (iStr tl) g tt te vs σ H Q := h
theorem lc_at (hw : ∀ R : It → Hp → Prop, R J H1 → wi σ H R) (h : tLc (fun _ _ R => R J H1) g tt te vs σ H Q) : tLc wi g tt te vs σ H Q := hw _ h
theorem for_lst {tb : TS} {D : Ends} (h : tl σ H fun x H1 => ∃ a, x = .ref a ∧ (∃ xs, SqL K H1 a xs) ∧ tFor (fun _ _ R => R (Itl K a) H1) g tb D σ H) : tFor (iList K tl) g tb D σ H := h
theorem for_str {tb : TS} {D : Ends} (h : tl σ H fun x H1 => ∃ z, x = .str z ∧ tFor (fun _ _ R => R (Its z) H1) g tb D σ H) : tFor (iStr tl) g tb D σ H := h
/-- the letters of a text as items -/
theorem walk_strY {z : Str} : Walk (Its z) (z.cps.toList.map fun c => V.str ⟨#[c]⟩).length (fun _ => True) (YAt (z.cps.toList.map fun c => V.str ⟨#[c]⟩)) := by
  have e : (z.cps.toList.map fun c => V.str ⟨#[c]⟩).length = z.cps.size := by simp
  rw [e]
  refine (walk_str (z := z)).mono (fun _ _ => trivial) ?_
  rintro i H x H' _ _ ⟨rfl, c, hc, rfl⟩
  exact ⟨rfl, by rw [List.getElem?_map, Array.getElem?_toList, hc]; rfl⟩
theorem walk_natY {n : Nat} : Walk (Itr 0 n) ((List.range n).map fun k => V.int (k : Nat)).length (fun _ => True) (YAt ((List.range n).map fun k => V.int (k : Nat))) := by
  have e : ((List.range n).map fun k => V.int (k : Nat)).length = n := by simp
  rw [e]
  refine (walk_range (lo := 0) (n := n)).mono (fun _ _ => trivial) ?_
  rintro i H x H' hi _ ⟨rfl, rfl⟩
  exact ⟨rfl, by rw [List.getElem?_map, List.getElem?_range hi]; simp⟩
end
end FK

/-! What the program's numbers are and how large they grow: the bends, the depths. -/
namespace Cox
/-- every number on the way of a sine's recurrence is small -/
def sineOk (double : Int) (bits k : Nat) : Bool :=
  (List.range (k + 1)).all fun j => match sineF double (2 ^ bits) j with
    | (b, v, sb, sl) => decide (b.natAbs < 2 ^ (bits + 60)) && (decide (v.natAbs < 2 ^ (bits + 60)) && (decide (sb.natAbs < 2 ^ (bits + 60)) && decide (sl.natAbs < 2 ^ (bits + 60))))
/-- the search for a bend comes to its end within so many steps, by positive slopes -/
def bendOk (order bits : Nat) : Nat → Int → Bool
  | 0, _ => false
  | f + 1, bend => match sineF bend (2 ^ bits) (order - 1) with
    | (_, value, _, slope) => decide (bend.natAbs < 2 ^ (bits + 2)) && (sineOk bend bits (order - 1) && (decide (0 < slope) && (if value * 2 ^ bits / slope ≤ 0 then true else bendOk order bits f (bend - value * 2 ^ bits / slope))))
def bendsOk (bits : Nat) : Bool := (List.range 13).all fun n => (n == 0 || n == 1 || bendOk n bits 40 (2 * 2 ^ bits)) && decide ((bendF n bits).natAbs ≤ 2 * 2 ^ bits)
theorem bends_ok : ∀ s : Fin 8, bendsOk (256 * (s.1 + 1) + 32) = true := by decide +kernel
theorem bendOk_of {s n : Nat} (hs : s < 8) (hn : okOrd n) (h0 : n ≠ 0) : bendOk n (256 * (s + 1) + 32) 40 (2 * 2 ^ (256 * (s + 1) + 32)) = true := by
  have h := bends_ok ⟨s, hs⟩
  have := List.all_eq_true.mp h n (List.mem_range.mpr (by rcases hn with h | h <;> omega))
  rw [Bool.and_eq_true] at this
  have h1 : n ≠ 1 := by rcases hn with h | h <;> omega
  simpa [h0, h1] using this.1
theorem bend_abs {s n : Nat} (hs : s < 8) (hn : okOrd n) : (bendF n (256 * (s + 1) + 32)).natAbs ≤ 2 * 2 ^ (256 * (s + 1) + 32) := by
  have h := bends_ok ⟨s, hs⟩
  have := List.all_eq_true.mp h n (List.mem_range.mpr (by rcases hn with h | h <;> omega))
  rw [Bool.and_eq_true] at this
  exact of_decide_eq_true this.2
/-- how large depths grow -/
theorem step_abs {b d e : Int} {T M : Nat} (hT : 0 < T) (hb : b.natAbs ≤ 2 * T) (hd : d.natAbs ≤ M) (he : e.natAbs ≤ M) (hM : 0 < M) : (d + b * e / (T : Int)).natAbs ≤ 4 * M := by
  have h1 : (b * e).natAbs ≤ (2 * M) * T := by
    rw [Int.natAbs_mul]
    have := Nat.mul_le_mul hb he
    calc b.natAbs * e.natAbs ≤ 2 * T * M := this
      _ = (2 * M) * T := by rw [Nat.mul_assoc, Nat.mul_comm T M, ← Nat.mul_assoc]
  have hT' : (0 : Int) < (T : Int) := by omega
  have up : b * e / (T : Int) ≤ 2 * M := by
    have h3 : b * e ≤ (2 * M : Nat) * (T : Int) := by
      have : b * e ≤ ((b * e).natAbs : Int) := by omega
      have h4 : ((b * e).natAbs : Int) ≤ (((2 * M) * T : Nat) : Int) := by omega
      rw [Int.natCast_mul] at h4
      omega
    have := Int.ediv_le_ediv hT' h3
    rw [Int.mul_ediv_cancel _ (by omega)] at this
    omega
  have lo : -(2 * M : Int) ≤ b * e / (T : Int) := by
    have h3 : (-(2 * M : Int)) * (T : Int) ≤ b * e := by
      have : -((b * e).natAbs : Int) ≤ b * e := by omega
      have h4 : ((b * e).natAbs : Int) ≤ (((2 * M) * T : Nat) : Int) := by omega
      rw [Int.natCast_mul] at h4
      rw [Int.neg_mul]
      have e5 : ((2 * M : Nat) : Int) = 2 * (M : Int) := by omega
      rw [e5] at h4
      omega
    exact Int.le_ediv_of_mul_le hT' h3
  omega
theorem dep_abs {B : Fin 3 → Fin 3 → Int} {T : Nat} (hT : 0 < T) (hB : ∀ i j, i ≠ j → (B i j).natAbs ≤ 2 * T) : ∀ (w : W) (j : Fin 3), (depI B (T : Int) w j).natAbs ≤ T * 4 ^ w.length
  | [], j => by
    show ((T : Int)).natAbs ≤ T * 4 ^ 0
    omega
  | i :: w, j => by
    have ih := dep_abs hT hB w
    have p : 0 < T * 4 ^ w.length := Nat.mul_pos hT (Nat.pow_pos (by decide))
    have e : T * 4 ^ (i :: w).length = 4 * (T * 4 ^ w.length) := by
      rw [List.length_cons, Nat.pow_succ, Nat.mul_comm _ 4, ← Nat.mul_assoc, Nat.mul_comm T 4, Nat.mul_assoc]
    rw [e]
    show (stepI B (T : Int) i (depI B (T : Int) w) j).natAbs ≤ _
    unfold stepI
    split
    · have := ih i
      rw [Int.natAbs_neg]
      omega
    · rename_i c
      exact step_abs hT (hB i j (fun z => c z.symm)) (ih j) (ih i) p
theorem tri_abs {a b c : Int} {M : Nat} (ha : a.natAbs ≤ M) (hb : b.natAbs ≤ M) (hc : c.natAbs ≤ M) : ∀ i j : Fin 3, i ≠ j → (tri 0 a b c i j).natAbs ≤ M := by
  intro i j hij
  unfold tri
  rw [if_neg hij]
  split
  · exact ha
  · split
    · exact hb
    · exact hc
end Cox

/-! Words of letters as texts. -/
namespace Cox
open PySem L2
def wS (w : W) : Str := ⟨(w.map fun i => 48 + i.1).toArray⟩
theorem wS_len (w : W) : (wS w).length = w.length := by
  show ((w.map fun i => 48 + i.1).toArray).size = _
  simp
theorem wS_list (w : W) : (wS w).cps.toList = w.map fun i => 48 + i.1 := by
  show ((w.map fun i => 48 + i.1).toArray).toList = _
  simp
theorem str_ext {x y : Str} (h : x.cps.toList = y.cps.toList) : x = y := by
  cases x with | mk a => cases y with | mk b =>
  have : a = b := Array.toList_inj.mp h
  rw [this]
theorem wS_app (u v : W) : wS u ++ wS v = wS (u ++ v) := by
  apply str_ext
  show ((wS u).cps ++ (wS v).cps).toList = _
  rw [Array.toList_append, wS_list, wS_list, wS_list, List.map_append]
theorem wS_inj {u v : W} (h : wS u = wS v) : u = v := by
  have h2 : u.map (fun i : Fin 3 => 48 + i.1) = v.map fun i => 48 + i.1 := by rw [← wS_list, ← wS_list, h]
  exact List.map_inj_right (fun a b e => Fin.ext (by omega)) |>.mp h2
theorem wS_rev (w : W) : FK.revS (wS w) = wS w.reverse := by
  apply str_ext
  show ((wS w).cps.toList.reverse.toArray).toList = _
  rw [wS_list, wS_list, List.map_reverse]
theorem wS_nil : wS [] = "" := by decide +kernel
theorem wS_one (i : Fin 3) : wS [i] = ⟨#[48 + i.1]⟩ := rfl
theorem wS_at {w : W} {k : Nat} {c : Nat} (h : (wS w).cps[k]? = some c) : ∃ i, w[k]? = some i ∧ (⟨#[c]⟩ : Str) = wS [i] := by
  rw [← Array.getElem?_toList, wS_list, List.getElem?_map] at h
  cases e : w[k]? with
  | none => rw [e] at h; cases h
  | some i => rw [e] at h; cases h; exact ⟨i, rfl, rfl⟩
theorem let3 (i : Fin 3) : wS [i] = "0" ∧ i = 0 ∨ wS [i] = "1" ∧ i = 1 ∨ wS [i] = "2" ∧ i = 2 := by
  revert i
  decide +kernel
theorem cutS_wS (w : W) (lo hi : Option Int) : cutS (wS w) lo hi = wS ((w.drop (HT.sIx w.length 0 lo)).take (HT.sIx w.length w.length hi - HT.sIx w.length 0 lo)) := by
  apply str_ext
  unfold cutS
  show (List.toArray _).toList = _
  rw [wS_list, wS_list, wS_len, List.map_take, List.map_drop]
theorem sIx_none (n d : Nat) : HT.sIx n d none = d := rfl
theorem sIx_nat (n d k : Nat) (h : k ≤ n) : HT.sIx n d (some (k : Int)) = k := by rw [HT.sIx_nat]; omega
theorem sIx_big (n d k : Nat) (h : n ≤ k) : HT.sIx n d (some (k : Int)) = n := by rw [HT.sIx_nat]; omega
theorem cut_to (w : W) (k : Nat) : cutS (wS w) none (some (k : Int)) = wS (w.take k) := by
  rw [cutS_wS, sIx_none, List.drop_zero]
  by_cases h : k ≤ w.length
  · rw [sIx_nat _ _ _ h, Nat.sub_zero]
  · rw [sIx_big _ _ _ (by omega), Nat.sub_zero, List.take_of_length_le (Nat.le_refl _), List.take_of_length_le (by omega)]
theorem cut_from (w : W) (k : Nat) : cutS (wS w) (some (k : Int)) none = wS (w.drop k) := by
  rw [cutS_wS, sIx_none]
  by_cases h : k ≤ w.length
  · rw [sIx_nat _ _ _ h, List.take_of_length_le (by rw [List.length_drop]; omega)]
  · rw [sIx_big _ _ _ (by omega), List.drop_of_length_le (Nat.le_refl _), List.drop_of_length_le (by omega)]
    simp
theorem cut_mid (w : W) (k n : Nat) : cutS (wS w) (some (k : Int)) (some ((k + n : Nat) : Int)) = wS ((w.drop k).take n) := by
  rw [cutS_wS]
  by_cases h : k ≤ w.length
  · by_cases h2 : k + n ≤ w.length
    · rw [sIx_nat _ _ _ h, sIx_nat _ _ _ h2, Nat.add_sub_cancel_left]
    · rw [sIx_nat _ _ _ h, sIx_big _ _ _ (by omega), List.take_of_length_le (by rw [List.length_drop]; omega), List.take_of_length_le (by rw [List.length_drop]; omega)]
  · rw [sIx_big _ _ _ (by omega), sIx_big _ _ _ (by omega), List.drop_of_length_le (Nat.le_refl _), List.drop_of_length_le (by omega)]
    simp
/-- the last letter, as a text -/
theorem cut_last (w : W) : cutS (wS w) (some (-1 : Int)) none = wS (w.drop (w.length - 1)) := by
  rw [cutS_wS, sIx_none]
  have e : HT.sIx w.length 0 (some (-1)) = w.length - 1 := by
    show (if (-1 : Int) < 0 then ((-1 : Int) + (w.length : Int)).toNat else min ((-1 : Int)).toNat w.length) = _
    rw [if_pos (by decide)]
    omega
  rw [e, List.take_of_length_le (by rw [List.length_drop]; omega)]
theorem letter_of {x : Str} (h : inV (.str x) [.str "0", .str "1", .str "2"] = true) : ∃ i : Fin 3, x = wS [i] := by
  unfold inV at h
  simp only [List.any_cons, List.any_nil, Bool.or_false, Bool.or_eq_true, decide_eq_true_eq, V.str.injEq] at h
  rcases h with h | h | h
  · have h2 : ("0" : Str) = x := eq_of_beq h
    exact ⟨0, h2.symm.trans (by decide +kernel)⟩
  · have h2 : ("1" : Str) = x := eq_of_beq h
    exact ⟨1, h2.symm.trans (by decide +kernel)⟩
  · have h2 : ("2" : Str) = x := eq_of_beq h
    exact ⟨2, h2.symm.trans (by decide +kernel)⟩
theorem is_letter (i : Fin 3) : inV (.str (wS [i])) [.str "0", .str "1", .str "2"] = true := by
  revert i
  decide +kernel
theorem word_of {x : Str} (h : ∀ c ∈ x.cps.toList, inV (.str ⟨#[c]⟩) [.str "0", .str "1", .str "2"] = true) : ∃ w, x = wS w := by
  have go : ∀ l : List Nat, (∀ c ∈ l, inV (.str ⟨#[c]⟩) [.str "0", .str "1", .str "2"] = true) → ∃ w : W, l = w.map fun i => 48 + i.1 := by
    intro l
    induction l with
    | nil => exact fun _ => ⟨[], rfl⟩
    | cons c l ih =>
      intro h
      obtain ⟨w, rfl⟩ := ih fun c hc => h c (List.mem_cons_of_mem _ hc)
      obtain ⟨i, hi⟩ := letter_of (h c List.mem_cons_self)
      have e : [c] = [48 + i.1] := by
        have := congrArg (fun z : Str => z.cps.toList) hi
        simpa [wS_one] using this
      injection e with e _
      exact ⟨i :: w, by rw [e]; rfl⟩
  obtain ⟨w, hw⟩ := go _ h
  exact ⟨w, str_ext (by rw [hw, wS_list])⟩
/-- the order of texts of one length is that of the words -/
theorem lx_lt : ∀ {u v : W}, u.length = v.length → ¬ ((wS v).cps.toList < (wS u).cps.toList) → lx u v
  | [], _, _, _ => trivial
  | a :: x, [], h, _ => by cases h
  | a :: x, b :: y, h, hn => by
    have hl : x.length = y.length := by simpa using h
    rw [wS_list, wS_list] at hn
    show a < b ∨ a = b ∧ lx x y
    rw [List.map_cons, List.map_cons, List.cons_lt_cons_iff] at hn
    have n1 : ¬ (48 + b.1 < 48 + a.1) := fun z => hn (.inl z)
    by_cases c : a = b
    · refine .inr ⟨c, lx_lt hl fun z => hn (.inr ⟨by rw [c], ?_⟩)⟩
      rw [wS_list, wS_list] at z
      exact z
    · exact .inl (by
        show a.1 < b.1
        have : a.1 ≠ b.1 := fun z => c (Fin.ext z)
        omega)
end Cox

namespace K35
open PySem PySem.Spec PyProof.Rows L2
def topS (i : Nat) : Stmt := PySem.Challenge.pw_foldfloor_k35_gates_at_corners.main.body.getD i (.Pass ⟨0, 0, 0, 0⟩)
abbrev s_is_order : Stmt := topS 9
abbrev s_is_orders : Stmt := topS 10
abbrev s_check_orders : Stmt := topS 11
abbrev s_is_letter : Stmt := topS 12
abbrev s_is_word : Stmt := topS 13
abbrev s_check_long_word : Stmt := topS 14
abbrev s_check_word : Stmt := topS 15
abbrev s_check_words : Stmt := topS 16
abbrev s_check_letter : Stmt := topS 17
abbrev s_sine_ratio : Stmt := topS 21
abbrev s_bend_of : Stmt := topS 22
abbrev s_scale_for : Stmt := topS 23
abbrev s_first_depths : Stmt := topS 24
abbrev s_depths_behind : Stmt := topS 25
abbrev s_depths_of : Stmt := topS 26
abbrev s_far_letters : Stmt := topS 27
abbrev s_first_far : Stmt := topS 28
abbrev s_first_root : Stmt := topS 29
abbrev s_root_behind : Stmt := topS 30
abbrev s_place_crossing : Stmt := topS 31
abbrev s_Floor_init : Stmt := inClass (topS 32) 0
abbrev s_Floor_scale : Stmt := inClass (topS 32) 1
abbrev s_Floor_normal : Stmt := inClass (topS 32) 2
abbrev s_Floor_ends : Stmt := inClass (topS 32) 3
abbrev s_Floor_left_out : Stmt := inClass (topS 32) 4
abbrev s_Floor_below : Stmt := inClass (topS 32) 5
abbrev s_way_between : Stmt := topS 34
abbrev s_shortest_around : Stmt := topS 36
abbrev s_gate : Stmt := topS 37
abbrev s_Tiles_init : Stmt := inClass (topS 40) 0
abbrev s_Tiles_normal : Stmt := inClass (topS 40) 1
abbrev s_Tiles_beyond : Stmt := inClass (topS 40) 2
abbrev s_Tiles_remembered : Stmt := inClass (topS 40) 4
abbrev s_law_cell : Stmt := topS 42
abbrev s_law_values : Stmt := topS 43
abbrev s_law_orders : Stmt := topS 44
abbrev s_law_word : Stmt := topS 45
abbrev s_law_told : Stmt := topS 48
abbrev s_law : Stmt := topS 49
theorem sc_is_order : FnScope ["order"] ["order"] (defScope s_is_order) := ⟨rfl, rfl, rfl, by decide +kernel, rfl, by decide +kernel, by decide +kernel⟩
theorem sc_is_orders : FnScope ["orders", "order"] ["orders"] (defScope s_is_orders) := ⟨rfl, rfl, rfl, by decide +kernel, rfl, by decide +kernel, by decide +kernel⟩
theorem sc_check_orders : FnScope ["orders"] ["orders"] (defScope s_check_orders) := ⟨rfl, rfl, rfl, by decide +kernel, rfl, by decide +kernel, by decide +kernel⟩
theorem sc_is_letter : FnScope ["text"] ["text"] (defScope s_is_letter) := ⟨rfl, rfl, rfl, by decide +kernel, rfl, by decide +kernel, by decide +kernel⟩
theorem sc_is_word : FnScope ["text", "most", "letter"] ["text", "most"] (defScope s_is_word) := ⟨rfl, rfl, rfl, by decide +kernel, rfl, by decide +kernel, by decide +kernel⟩
theorem sc_check_long_word : FnScope ["word", "most"] ["word", "most"] (defScope s_check_long_word) := ⟨rfl, rfl, rfl, by decide +kernel, rfl, by decide +kernel, by decide +kernel⟩
theorem sc_check_word : FnScope ["word"] ["word"] (defScope s_check_word) := ⟨rfl, rfl, rfl, by decide +kernel, rfl, by decide +kernel, by decide +kernel⟩
theorem sc_check_words : FnScope ["words", "word"] ["words"] (defScope s_check_words) := ⟨rfl, rfl, rfl, by decide +kernel, rfl, by decide +kernel, by decide +kernel⟩
theorem sc_check_letter : FnScope ["text"] ["text"] (defScope s_check_letter) := ⟨rfl, rfl, rfl, by decide +kernel, rfl, by decide +kernel, by decide +kernel⟩
theorem sc_sine_ratio : FnScope ["order", "double", "bits", "_", "before", "value", "slope_before", "slope"] ["order", "double", "bits"] (defScope s_sine_ratio) := ⟨rfl, rfl, rfl, by decide +kernel, rfl, by decide +kernel, by decide +kernel⟩
theorem sc_bend_of : FnScope ["order", "bits", "bend", "step", "value", "slope"] ["order", "bits"] (defScope s_bend_of) := ⟨rfl, rfl, rfl, by decide +kernel, rfl, by decide +kernel, by decide +kernel⟩
theorem sc_scale_for : FnScope ["orders", "steps", "bits", "order"] ["orders", "steps"] (defScope s_scale_for) := ⟨rfl, rfl, rfl, by decide +kernel, rfl, by decide +kernel, by decide +kernel⟩
theorem sc_first_depths : FnScope ["scale", "one"] ["scale"] (defScope s_first_depths) := ⟨rfl, rfl, rfl, by decide +kernel, rfl, by decide +kernel, by decide +kernel⟩
theorem sc_depths_behind : FnScope ["scale", "depths", "letter", "bits", "zero", "one", "two", "b01", "b12", "b02"] ["scale", "depths", "letter"] (defScope s_depths_behind) := ⟨rfl, rfl, rfl, by decide +kernel, rfl, by decide +kernel, by decide +kernel⟩
theorem sc_depths_of : FnScope ["scale", "word", "depths", "letter"] ["scale", "word"] (defScope s_depths_of) := ⟨rfl, rfl, rfl, by decide +kernel, rfl, by decide +kernel, by decide +kernel⟩
theorem sc_far_letters : FnScope ["depths", "letter", "depth"] ["depths"] (defScope s_far_letters) := ⟨rfl, rfl, rfl, by decide +kernel, rfl, by decide +kernel, by decide +kernel⟩
theorem sc_first_far : FnScope ["depths", "zero", "one", "two"] ["depths"] (defScope s_first_far) := ⟨rfl, rfl, rfl, by decide +kernel, rfl, by decide +kernel, by decide +kernel⟩
theorem sc_first_root : FnScope ["scale", "letter", "one", "other"] ["scale", "letter"] (defScope s_first_root) := ⟨rfl, rfl, rfl, by decide +kernel, rfl, by decide +kernel, by decide +kernel⟩
theorem sc_root_behind : FnScope ["scale", "root", "letter", "bits", "zero", "one", "two", "b01", "b12", "b02"] ["scale", "root", "letter"] (defScope s_root_behind) := ⟨rfl, rfl, rfl, by decide +kernel, rfl, by decide +kernel, by decide +kernel⟩
theorem sc_place_crossing : FnScope ["scale", "word", "letter", "root", "at"] ["scale", "word", "letter"] (defScope s_place_crossing) := ⟨rfl, rfl, rfl, by decide +kernel, rfl, by decide +kernel, by decide +kernel⟩
theorem sc_Floor_init : FnScope ["self", "orders"] ["self", "orders"] (defScope s_Floor_init) := ⟨rfl, rfl, rfl, by decide +kernel, rfl, by decide +kernel, by decide +kernel⟩
theorem sc_Floor_scale : FnScope ["self", "steps", "size"] ["self", "steps"] (defScope s_Floor_scale) := ⟨rfl, rfl, rfl, by decide +kernel, rfl, by decide +kernel, by decide +kernel⟩
theorem sc_Floor_normal : FnScope ["self", "word", "scale", "depths", "letters", "letter"] ["self", "word"] (defScope s_Floor_normal) := ⟨rfl, rfl, rfl, by decide +kernel, rfl, by decide +kernel, by decide +kernel⟩
theorem sc_Floor_ends : FnScope ["self", "word"] ["self", "word"] (defScope s_Floor_ends) := ⟨rfl, rfl, rfl, by decide +kernel, rfl, by decide +kernel, by decide +kernel⟩
theorem sc_Floor_left_out : FnScope ["self", "word", "letter"] ["self", "word", "letter"] (defScope s_Floor_left_out) := ⟨rfl, rfl, rfl, by decide +kernel, rfl, by decide +kernel, by decide +kernel⟩
theorem sc_Floor_below : FnScope ["self", "tile", "letter", "at"] ["self", "tile", "letter"] (defScope s_Floor_below) := ⟨rfl, rfl, rfl, by decide +kernel, rfl, by decide +kernel, by decide +kernel⟩
theorem sc_way_between : FnScope ["floor", "one", "other"] ["floor", "one", "other"] (defScope s_way_between) := ⟨rfl, rfl, rfl, by decide +kernel, rfl, by decide +kernel, by decide +kernel⟩
theorem sc_shortest_around : FnScope ["floor", "tile", "corner", "ends", "letter"] ["floor", "tile", "corner"] (defScope s_shortest_around) := ⟨rfl, rfl, rfl, by decide +kernel, rfl, by decide +kernel, by decide +kernel⟩
theorem sc_gate : FnScope ["orders", "word", "tile", "corner", "floor", "way"] ["orders", "word", "tile", "corner"] (defScope s_gate) := ⟨rfl, rfl, rfl, by decide +kernel, rfl, by decide +kernel, by decide +kernel⟩
theorem sc_Tiles_init : FnScope ["self", "orders"] ["self", "orders"] (defScope s_Tiles_init) := ⟨rfl, rfl, rfl, by decide +kernel, rfl, by decide +kernel, by decide +kernel⟩
theorem sc_Tiles_normal : FnScope ["self", "word"] ["self", "word"] (defScope s_Tiles_normal) := ⟨rfl, rfl, rfl, by decide +kernel, rfl, by decide +kernel, by decide +kernel⟩
theorem sc_Tiles_beyond : FnScope ["self", "tile", "letter"] ["self", "tile", "letter"] (defScope s_Tiles_beyond) := ⟨rfl, rfl, rfl, by decide +kernel, rfl, by decide +kernel, by decide +kernel⟩
theorem sc_Tiles_remembered : FnScope ["self", "word"] ["self", "word"] (defScope s_Tiles_remembered) := ⟨rfl, rfl, rfl, by decide +kernel, rfl, by decide +kernel, by decide +kernel⟩
theorem sc_law_cell : FnScope ["script", "k"] ["script", "k"] (defScope s_law_cell) := ⟨rfl, rfl, rfl, by decide +kernel, rfl, by decide +kernel, by decide +kernel⟩
theorem sc_law_values : FnScope ["cell", "count", "size", "values", "rest", "k", "mixed"] ["cell", "count", "size"] (defScope s_law_values) := ⟨rfl, rfl, rfl, by decide +kernel, rfl, by decide +kernel, by decide +kernel⟩
theorem sc_law_orders : FnScope ["cell", "kinds"] ["cell"] (defScope s_law_orders) := ⟨rfl, rfl, rfl, by decide +kernel, rfl, by decide +kernel, by decide +kernel⟩
theorem sc_law_word : FnScope ["cell", "most", "values", "value"] ["cell", "most"] (defScope s_law_word) := ⟨rfl, rfl, rfl, by decide +kernel, rfl, by decide +kernel, by decide +kernel⟩
theorem sc_law_told : FnScope ["orders", "word", "tile", "corner"] ["orders", "word", "tile", "corner"] (defScope s_law_told) := ⟨rfl, rfl, rfl, by decide +kernel, rfl, by decide +kernel, by decide +kernel⟩
theorem sc_law : FnScope ["script", "orders", "floor", "word", "tile", "corner", "around", "first", "lengths", "least", "told", "k", "strange", "here", "one"] ["script"] (defScope s_law) := ⟨rfl, rfl, rfl, by decide +kernel, rfl, by decide +kernel, by decide +kernel⟩
/-- where the top's classes and constants stand -/
structure Xs where
  FoldError : Addr
  NotOrders : Addr
  NotWord : Addr
  BadNumber : Addr
  Floor : Addr
  Tiles : Addr
  t_LETTERS : Tok
  a_PAIRS : Addr
  t_MOST_LETTERS : Tok
  t_GUARD : Tok
  t_SIZE : Tok
  t_MOST_REMEMBERED : Tok
  b0 : Addr
  b1 : Addr
  b2 : Addr
/-- what the top has written -/
structure Txt (K : PySem.W.Frag) (mg : Str → Option Value) (cx : Xs) : Prop where
  d_is_order : FK.At K mg "is_order" s_is_order ["order"]
  d_is_orders : FK.At K mg "is_orders" s_is_orders ["orders"]
  d_check_orders : FK.At K mg "check_orders" s_check_orders ["orders"]
  d_is_letter : FK.At K mg "is_letter" s_is_letter ["text"]
  d_is_word : FK.At K mg "is_word" s_is_word ["text", "most"]
  d_check_long_word : FK.At K mg "check_long_word" s_check_long_word ["word", "most"]
  d_check_word : FK.At K mg "check_word" s_check_word ["word"]
  d_check_words : FK.At K mg "check_words" s_check_words ["words"]
  d_check_letter : FK.At K mg "check_letter" s_check_letter ["text"]
  d_sine_ratio : FK.At K mg "sine_ratio" s_sine_ratio ["order", "double", "bits"]
  d_bend_of : FK.At K mg "bend_of" s_bend_of ["order", "bits"]
  d_scale_for : FK.At K mg "scale_for" s_scale_for ["orders", "steps"]
  d_first_depths : FK.At K mg "first_depths" s_first_depths ["scale"]
  d_depths_behind : FK.At K mg "depths_behind" s_depths_behind ["scale", "depths", "letter"]
  d_depths_of : FK.At K mg "depths_of" s_depths_of ["scale", "word"]
  d_far_letters : FK.At K mg "far_letters" s_far_letters ["depths"]
  d_first_far : FK.At K mg "first_far" s_first_far ["depths"]
  d_first_root : FK.At K mg "first_root" s_first_root ["scale", "letter"]
  d_root_behind : FK.At K mg "root_behind" s_root_behind ["scale", "root", "letter"]
  d_place_crossing : FK.At K mg "place_crossing" s_place_crossing ["scale", "word", "letter"]
  d_Floor_init : FK.IAt K cx.Floor "Floor.__init__" s_Floor_init ["self", "orders"]
  d_Floor_scale : FK.MAt K cx.Floor "scale" "Floor.scale" s_Floor_scale ["self", "steps"]
  d_Floor_normal : FK.MAt K cx.Floor "normal" "Floor.normal" s_Floor_normal ["self", "word"]
  d_Floor_ends : FK.MAt K cx.Floor "ends" "Floor.ends" s_Floor_ends ["self", "word"]
  d_Floor_left_out : FK.MAt K cx.Floor "left_out" "Floor.left_out" s_Floor_left_out ["self", "word", "letter"]
  d_Floor_below : FK.MAt K cx.Floor "below" "Floor.below" s_Floor_below ["self", "tile", "letter"]
  d_way_between : FK.At K mg "way_between" s_way_between ["floor", "one", "other"]
  d_shortest_around : FK.At K mg "shortest_around" s_shortest_around ["floor", "tile", "corner"]
  d_gate : FK.At K mg "gate" s_gate ["orders", "word", "tile", "corner"]
  d_Tiles_init : FK.IAt K cx.Tiles "Tiles.__init__" s_Tiles_init ["self", "orders"]
  d_Tiles_normal : FK.MAt K cx.Tiles "normal" "Tiles.normal" s_Tiles_normal ["self", "word"]
  d_Tiles_beyond : FK.MAt K cx.Tiles "beyond" "Tiles.beyond" s_Tiles_beyond ["self", "tile", "letter"]
  d_Tiles_remembered : FK.MAt K cx.Tiles "remembered" "Tiles.remembered" s_Tiles_remembered ["self", "word"]
  d_law_cell : FK.At K mg "_law_cell" s_law_cell ["script", "k"]
  d_law_values : FK.At K mg "_law_values" s_law_values ["cell", "count", "size"]
  d_law_orders : FK.At K mg "_law_orders" s_law_orders ["cell"]
  d_law_word : FK.At K mg "_law_word" s_law_word ["cell", "most"]
  d_law_told : FK.At K mg "_law_told" s_law_told ["orders", "word", "tile", "corner"]
  d_law : FK.At K mg "law" s_law ["script"]
  g_Floor : mg "Floor" = some (.ref cx.Floor)
  cl_Floor : Cls K cx.Floor
  nF_Floor_orders : NoAttr K cx.Floor "orders"
  nF_Floor_scales : NoAttr K cx.Floor "scales"
  g_Tiles : mg "Tiles" = some (.ref cx.Tiles)
  cl_Tiles : Cls K cx.Tiles
  nF_Tiles_floor : NoAttr K cx.Tiles "floor"
  nF_Tiles_normals : NoAttr K cx.Tiles "normals"
  n_all : mg "all" = none
  n_bool : mg "bool" = none
  n_int : mg "int" = none
  n_isinstance : mg "isinstance" = none
  n_len : mg "len" = none
  n_min : mg "min" = none
  n_range : mg "range" = none
  n_repr : mg "repr" = none
  n_sum : mg "sum" = none
  n_tuple : mg "tuple" = none
  n_zip : mg "zip" = none
  x_FoldError : FK.XC K mg "FoldError" cx.FoldError
  x_NotOrders : FK.XC K mg "NotOrders" cx.NotOrders
  x_NotWord : FK.XC K mg "NotWord" cx.NotWord
  x_BadNumber : FK.XC K mg "BadNumber" cx.BadNumber
  c_LETTERS : mg "LETTERS" = some (.str "012" cx.t_LETTERS)
  c_PAIRS : mg "PAIRS" = some (.ref cx.a_PAIRS)
  c_MOST_LETTERS : mg "MOST_LETTERS" = some (.int 60 cx.t_MOST_LETTERS)
  c_GUARD : mg "GUARD" = some (.int 32 cx.t_GUARD)
  c_SIZE : mg "SIZE" = some (.int 128 cx.t_SIZE)
  c_MOST_REMEMBERED : mg "MOST_REMEMBERED" = some (.int 400 cx.t_MOST_REMEMBERED)
  exm_NotOrders_NotOrders : PySem.W.exmOne K (.ref cx.NotOrders) (.ref cx.NotOrders) = some true
  exm_NotOrders_NotWord : PySem.W.exmOne K (.ref cx.NotOrders) (.ref cx.NotWord) = some false
  exm_NotOrders_BadNumber : PySem.W.exmOne K (.ref cx.NotOrders) (.ref cx.BadNumber) = some false
  exm_NotWord_NotOrders : PySem.W.exmOne K (.ref cx.NotWord) (.ref cx.NotOrders) = some false
  exm_NotWord_NotWord : PySem.W.exmOne K (.ref cx.NotWord) (.ref cx.NotWord) = some true
  exm_NotWord_BadNumber : PySem.W.exmOne K (.ref cx.NotWord) (.ref cx.BadNumber) = some false
  exm_BadNumber_NotOrders : PySem.W.exmOne K (.ref cx.BadNumber) (.ref cx.NotOrders) = some false
  exm_BadNumber_NotWord : PySem.W.exmOne K (.ref cx.BadNumber) (.ref cx.NotWord) = some false
  exm_BadNumber_BadNumber : PySem.W.exmOne K (.ref cx.BadNumber) (.ref cx.BadNumber) = some true
  p_PAIRS : ∃ (dd : Option Addr) (n : Nat) (sl : Array (Option Value)), K.lookup cx.a_PAIRS = some ⟨.type "tuple", dd, .seq #[.ref cx.b0, .ref cx.b1, .ref cx.b2] n, sl⟩
  p_b0 : ∃ (dd : Option Addr) (n : Nat) (sl : Array (Option Value)) (t1 t2 : Tok), K.lookup cx.b0 = some ⟨.type "tuple", dd, .seq #[.str "0" t1, .str "1" t2] n, sl⟩
  p_b1 : ∃ (dd : Option Addr) (n : Nat) (sl : Array (Option Value)) (t1 t2 : Tok), K.lookup cx.b1 = some ⟨.type "tuple", dd, .seq #[.str "1" t1, .str "2" t2] n, sl⟩
  p_b2 : ∃ (dd : Option Addr) (n : Nat) (sl : Array (Option Value)) (t1 t2 : Tok), K.lookup cx.b2 = some ⟨.type "tuple", dd, .seq #[.str "0" t1, .str "2" t2] n, sl⟩
theorem mk_txt {K : PySem.W.Frag} {mg : Str → Option Value} {y0 : Addr} {y1 : Addr} {y2 : Addr} {y3 : Addr} {y4 : Addr} {y5 : Addr} {y6 : Tok} {y7 : Addr} {y8 : Tok} {y9 : Tok} {y10 : Tok} {y11 : Tok} {y12 : Addr} {y13 : Addr} {y14 : Addr} (T : Txt K mg ⟨y0, y1, y2, y3, y4, y5, y6, y7, y8, y9, y10, y11, y12, y13, y14⟩) : ∃ cx : Xs, Txt K mg cx := ⟨_, T⟩
section
variable {P : Program} {w : World} {K : PySem.W.Frag} {mg : Str → Option Value} {base : Heap} {cx : Xs}
/-- what the orders of a floor are -/
def okOrder (n : Int) : Bool := decide (n = 0) || (decide (2 ≤ n) && decide (n ≤ 12))
def okOrders (ns : List Int) : Bool := decide (ns.length = 3) && ns.all okOrder
theorem tyx_tup {H : Hp} {a : Addr} {xs : List V} (h : SqT K H a xs) : TyX K H (.ref a) (.type "tuple") := by
  rcases h with (h | ⟨o, h⟩) | ⟨o, its, n, hk, hc, _⟩
  · exact .base (.tup h)
  · exact .fTuple h
  · exact .kTuple hk hc
def spIsOrder : Sp := fun vs H Q _ => ∃ n : Int, vs = [.int n] ∧ Q (.bl (okOrder n)) H
theorem ok_is_order (T : Txt K mg cx) : FK.Has P w K mg base CX0 1 "is_order" ["order"] spIsOrder := by
  refine T.d_is_order.ok sc_is_order (fun vs H Q E h => ?_) (fun f cdv A outer s H vs Q E hr h => ?_)
  · obtain ⟨n, rfl, _⟩ := h
    rfl
  · obtain ⟨n, rfl, q⟩ := h
    refine ⟨_, (pss_cons (ps_if (PW.pt (pw_or (pt_val (pe_callB call_isi (by rfl) T.n_isinstance (by decide +kernel) (pa_cons (pv 0) (pa_cons (pe_bltn (v := .ty "bool") (by rfl) T.n_bool (by decide +kernel) rfl) pa_nil)))) (pw_or1 (pt_not (pt_val (pe_callB call_isi (by rfl) T.n_isinstance (by decide +kernel) (pa_cons (pv 0) (pa_cons (pe_bltn (v := .ty "int") (by rfl) T.n_int (by decide +kernel) rfl) pa_nil)))))))) (pss_one (ps_ret pe_bl)) pss_nil)
  (pss_one (ps_ret (pe_or (pe_cmpR op_eq (pv 0) pe_int (nomark _)) (pe_one (pe_chain op_le op_le pe_int (pv 0) pe_int)))))), ?_⟩
    simp only [tSeq, tIfS, tOr, tAnd, tB, tTest, tCB, tCons, tVar, tC, tNil, tNot, tNotV, tRet, tRetN, tNext, tBreak, tOrV, tAndV, tOp, tUn, rEq, rNe, tChain, rI0, rI, rU, tAsg, gName, tDrop, tAug, ipI, tIf, tCall, tCallS, tLst, tTup, tBM, tBM0, rAppend, rExtend, rPop, rReverse, tyV, rIxL, rIxT, rIxS, rIsB, rNotB, L2.start, List.map_cons, List.map_nil, List.length_cons, List.length_nil, List.replicate, List.cons_append, List.nil_append, List.append_nil, List.getElem?_cons_zero, List.getElem?_cons_succ, List.set_cons_zero, List.set_cons_succ, Nat.reduceAdd, Nat.reduceSub, Option.some.injEq, exists_eq_left', exists_eq_left, V.int.injEq, V.bl.injEq, V.str.injEq, V.ref.injEq, List.cons.injEq, and_true, true_and, and_assoc, reduceCtorEq, false_and, exists_false, or_false, false_or, exists_and_left, exists_const, scal, Int.reduceLT, Int.reduceLE, Int.reduceSub, Int.reduceAdd, Int.reduceNeg, if_true, if_false]
    refine ⟨_, _, _, _, false, rfl, .ty "bool", .base (.int n), kit_ty (by decide +kernel), _, rfl, iteF ?_⟩
    refine ⟨_, _, _, _, true, rfl, .ty "int", .base (.int n), kit_ty (by decide +kernel), _, rfl, iteF ?_⟩
    unfold okOrder at q
    refine ite2 (fun c => ?_) (fun c => ?_)
    · rw [c] at q
      exact q
    · rw [eq_false_of_ne_true c] at q
      refine ite2 (fun c2 => ?_) (fun c2 => ?_)
      · rw [c2] at q
        exact q
      · rw [eq_false_of_ne_true c2] at q
        exact q
def spIsOrders (K : PySem.W.Frag) : Sp := fun vs H Q _ => ∃ (a : Addr) (ns : List Int), vs = [.ref a] ∧ SqT K H a (ns.map V.int) ∧ ∀ H', Same H H' → Q (.bl (okOrders ns)) H'
theorem ok_is_orders (T : Txt K mg cx) : FK.Has P w K mg base CX0 2 "is_orders" ["orders"] (spIsOrders K) := by
  have H_is_order := ok_is_order (P := P) (w := w) (base := base) T
  refine T.d_is_orders.ok sc_is_orders (fun vs H Q E h => ?_) (fun f cdv A outer s H vs Q E hr h => ?_)
  · obtain ⟨a, ns, rfl, _⟩ := h
    rfl
  · obtain ⟨a, ns, rfl, hS, q⟩ := h
    refine ⟨_, (pss_cons (ps_if (PW.pt (pw_or (pt_not (pt_val (pe_callB call_isi (by rfl) T.n_isinstance (by decide +kernel) (pa_cons (pv 0) (pa_cons (pe_bltn (v := .ty "tuple") (by rfl) T.n_tuple (by decide +kernel) rfl) pa_nil))))) (pw_or1 (pt_cmpR op_ne (pe_callB call_len_seq (by rfl) T.n_len PySem.boot_len (pa_cons (pv 0) pa_nil)) pe_int (nomark _))))) (pss_one (ps_ret pe_bl)) pss_nil)
  (pss_one (ps_ret (pe_callB (cr_all rfl) (by rfl) T.n_all (by decide +kernel) (pa_cons (pe_lc (own := [("order", 1)]) (g := gName 1) (tt := tYes) rfl sc_is_orders.nd (pi_tup (pv 0)) (blkOk_by (own := [("order", 1)]) (N := ["orders", "order"]) (sc := defScope s_is_orders) (by decide +kernel)) (fun _ _ _ _ _ => (pg_name (i := 1) sc_is_orders.nd rfl (Or.inl rfl))) (fun _ _ _ _ _ => pts_nil) (fun _ _ _ _ _ => (FK.pe_h (E := E0) H_is_order (hr.mono (by decide)) pass0 (pa_cons (pv 1) pa_nil)))) pa_nil))))), ?_⟩
    simp only [tSeq, tIfS, tOr, tAnd, tB, tTest, tCB, tCons, tVar, tC, tNil, tNot, tNotV, tRet, tRetN, tNext, tBreak, tOrV, tAndV, tOp, tUn, rEq, rNe, tChain, rI0, rI, rU, tAsg, gName, tDrop, tAug, ipI, tIf, tCall, tCallS, tLst, tTup, tBM, tBM0, rAppend, rExtend, rPop, rReverse, tyV, rIxL, rIxT, rIxS, rIsB, rNotB, L2.start, List.map_cons, List.map_nil, List.length_cons, List.length_nil, List.replicate, List.cons_append, List.nil_append, List.append_nil, List.getElem?_cons_zero, List.getElem?_cons_succ, List.set_cons_zero, List.set_cons_succ, Nat.reduceAdd, Nat.reduceSub, Option.some.injEq, exists_eq_left', exists_eq_left, V.int.injEq, V.bl.injEq, V.str.injEq, V.ref.injEq, List.cons.injEq, and_true, true_and, and_assoc, reduceCtorEq, false_and, exists_false, or_false, false_or, exists_and_left, exists_const, scal, Int.reduceLT, Int.reduceLE, Int.reduceSub, Int.reduceAdd, Int.reduceNeg, if_true, if_false]
    refine ⟨_, _, _, _, true, rfl, .ty "tuple", tyx_tup hS, kit_ty (by decide +kernel), _, rfl, iteF ?_⟩
    refine ⟨_, .inr hS, ite2 (fun c => ?_) (fun c => ?_)⟩
    · have e : okOrders ns = false := by
        unfold okOrders
        rw [List.length_map] at c
        rw [decide_eq_false (fun z => by rw [z] at c; exact absurd c (by decide)), Bool.false_and]
      have q2 := q H (Same.refl H)
      rw [e] at q2
      exact q2
    · have e : ns.length = 3 := by
        rw [List.length_map] at c
        have c2 : ((ns.length : Nat) : Int) = 3 := by
          by_cases z : ((ns.length : Nat) : Int) = 3
          · exact z
          · exact absurd (by rw [decide_eq_false z]; rfl) c
        omega
      refine FK.rd_lc_pure (J := Itt K a) (H1 := H) ((ns.map okOrder).map V.bl) (fun R r => ⟨_, rfl, a, rfl, ⟨_, hS⟩, r⟩)
        (by have w := walk_tup (K := K) (a := a) (xs := ns.map V.int); rw [List.length_map] at w; rw [List.length_map, List.length_map]; exact w)
        (fun D o hD => FK.Same.tupS (FK.same_new hD) hS) (by rw [List.length_map, List.length_map, e]; decide) (fun _ => rfl) ?_ ?_ (fun _ _ _ _ (z : _ ∧ _) => z.1)
      · rintro D j x z H' H'' R hD hz rfl ⟨rfl, hx⟩ go
        rw [List.getElem?_map] at hx hz
        rw [List.getElem?_map] at hz
        cases en : ns[j]? with
        | none => rw [en] at hx; cases hx
        | some n =>
          rw [en] at hx hz
          cases hx
          cases hz
          simp only [tSeq, tIfS, tOr, tAnd, tB, tTest, tCB, tCons, tVar, tC, tNil, tNot, tNotV, tRet, tRetN, tNext, tBreak, tOrV, tAndV, tOp, tUn, rEq, rNe, tChain, rI0, rI, rU, tAsg, gName, tDrop, tAug, ipI, tIf, tCall, tCallS, tLst, tTup, tBM, tBM0, rAppend, rExtend, rPop, rReverse, tyV, rIxL, rIxT, rIxS, rIsB, rNotB, L2.start, List.map_cons, List.map_nil, List.length_cons, List.length_nil, List.replicate, List.cons_append, List.nil_append, List.append_nil, List.getElem?_cons_zero, List.getElem?_cons_succ, List.set_cons_zero, List.set_cons_succ, Nat.reduceAdd, Nat.reduceSub, Option.some.injEq, exists_eq_left', exists_eq_left, V.int.injEq, V.bl.injEq, V.str.injEq, V.ref.injEq, List.cons.injEq, and_true, true_and, and_assoc, reduceCtorEq, false_and, exists_false, or_false, false_or, exists_and_left, exists_const, scal, Int.reduceLT, Int.reduceLE, Int.reduceSub, Int.reduceAdd, Int.reduceNeg, if_true, if_false, wipe]
          exact ⟨n, rfl, go⟩
      · intro D hD
        refine ⟨D, ns.map okOrder, rfl, SqL.of upd_same, ?_⟩
        have e2 : okOrders ns = (ns.map okOrder).all id := by
          unfold okOrders
          rw [e, List.all_map]
          rfl
        rw [← e2]
        exact q _ (FK.same_new hD)
def spCheckOrders (K : PySem.W.Frag) (C : Addr) : Sp := fun vs H Q E => ∃ (a : Addr) (ns : List Int), vs = [.ref a] ∧ SqT K H a (ns.map V.int) ∧ (okOrders ns = false → ∀ H', Same H H' → E (.ref C) none H') ∧ (okOrders ns = true → ∀ H', Same H H' → Q .non H')
theorem ok_check_orders (T : Txt K mg cx) : FK.Has P w K mg base (L2.CX P w) 4 "check_orders" ["orders"] (spCheckOrders K cx.NotOrders) := by
  have H_is_orders := ok_is_orders (P := P) (w := w) (base := base) T
  refine T.d_check_orders.okX sc_check_orders (fun vs H Q E h => ?_) (fun f cdv A outer s H vs Q E hr h => ?_)
  · obtain ⟨a, ns, rfl, _⟩ := h
    rfl
  · obtain ⟨a, ns, rfl, hS, qE, q⟩ := h
    refine ⟨_, (pss_one (ps_if (pt_not (pt_val (FK.pe_h (E := E0) H_is_orders (hr.mono (by decide)) pass0 (pa_cons (pv 0) pa_nil)))) (pss_one (ps_raise rfl (takes_of rfl rfl rfl rfl) (pmk_own PySem.F.excBase_ValueError T.x_NotOrders.x T.x_NotOrders.g T.x_NotOrders.k (raises_own T.x_NotOrders.b T.x_NotOrders.t) (by exact rfl)))) pss_nil)), ?_⟩
    simp only [tSeq, tIfS, tOr, tAnd, tB, tTest, tCB, tCons, tVar, tC, tNil, tNot, tNotV, tRet, tRetN, tNext, tBreak, tOrV, tAndV, tOp, tUn, rEq, rNe, tChain, rI0, rI, rU, tAsg, gName, tDrop, tAug, ipI, tIf, tCall, tCallS, tLst, tTup, tBM, tBM0, rAppend, rExtend, rPop, rReverse, tyV, rIxL, rIxT, rIxS, rIsB, rNotB, L2.start, List.map_cons, List.map_nil, List.length_cons, List.length_nil, List.replicate, List.cons_append, List.nil_append, List.append_nil, List.getElem?_cons_zero, List.getElem?_cons_succ, List.set_cons_zero, List.set_cons_succ, Nat.reduceAdd, Nat.reduceSub, Option.some.injEq, exists_eq_left', exists_eq_left, V.int.injEq, V.bl.injEq, V.str.injEq, V.ref.injEq, List.cons.injEq, and_true, true_and, and_assoc, reduceCtorEq, false_and, exists_false, or_false, false_or, exists_and_left, exists_const, scal, Int.reduceLT, Int.reduceLE, Int.reduceSub, Int.reduceAdd, Int.reduceNeg, if_true, if_false]
    refine ⟨a, ns, rfl, hS, fun H' hs => ⟨_, rfl, ?_⟩⟩
    cases e : okOrders ns with
    | false => exact iteT (qE e H' hs)
    | true => exact iteF (q e H' hs)
/-- one letter -/
def isLet (x : Str) : Bool := inV (.str x) [.str "0", .str "1", .str "2"]
def spIsLetter : Sp := fun vs H Q _ => ∃ x : Str, vs = [.str x] ∧ ∀ H', Same H H' → Q (.bl (isLet x)) H'
theorem ok_is_letter (T : Txt K mg cx) : FK.Has P w K mg base CX0 1 "is_letter" ["text"] spIsLetter := by
  refine T.d_is_letter.ok sc_is_letter (fun vs H Q E h => ?_) (fun f cdv A outer s H vs Q E hr h => ?_)
  · obtain ⟨n, rfl, _⟩ := h
    rfl
  · obtain ⟨x, rfl, q⟩ := h
    refine ⟨_, (pss_one (ps_ret (pe_cmpR (show OpR _ (compareOp .In) (rIn K false) from op_in_seq) (pv 0) (pe_tup (pa_cons pe_str (pa_cons pe_str (pa_cons pe_str pa_nil)))) (by rfl)))), ?_⟩
    simp only [tSeq, tIfS, tOr, tAnd, tB, tTest, tCB, tCons, tVar, tC, tNil, tNot, tNotV, tRet, tRetN, tNext, tBreak, tOrV, tAndV, tOp, tUn, rEq, rNe, tChain, rI0, rI, rU, tAsg, gName, tDrop, tAug, ipI, tIf, tCall, tCallS, tLst, tTup, tBM, tBM0, rAppend, rExtend, rPop, rReverse, tyV, rIxL, rIxT, rIxS, rIsB, rNotB, L2.start, List.map_cons, List.map_nil, List.length_cons, List.length_nil, List.replicate, List.cons_append, List.nil_append, List.append_nil, List.getElem?_cons_zero, List.getElem?_cons_succ, List.set_cons_zero, List.set_cons_succ, Nat.reduceAdd, Nat.reduceSub, Option.some.injEq, exists_eq_left', exists_eq_left, V.int.injEq, V.bl.injEq, V.str.injEq, V.ref.injEq, List.cons.injEq, and_true, true_and, and_assoc, reduceCtorEq, false_and, exists_false, or_false, false_or, exists_and_left, exists_const, scal, Int.reduceLT, Int.reduceLE, Int.reduceSub, Int.reduceAdd, Int.reduceNeg, if_true, if_false]
    exact ⟨by decide, fun p hp => ⟨p, _, rfl, .inr (SqT.of upd_same), rfl, rfl, q _ (FK.same_new hp)⟩⟩
/-- a word of at most so many letters -/
def okWord (x : Str) (m : Int) : Bool := decide ((x.length : Int) ≤ m) && x.cps.toList.all fun c => isLet ⟨#[c]⟩
def spIsWord : Sp := fun vs H Q _ => ∃ (x : Str) (m : Int), vs = [.str x, .int m] ∧ x.length < sizeLine ∧ ∀ H', Same H H' → Q (.bl (okWord x m)) H'
theorem ok_is_word (T : Txt K mg cx) : FK.Has P w K mg base CX0 2 "is_word" ["text", "most"] spIsWord := by
  have H_is_letter := ok_is_letter (P := P) (w := w) (base := base) T
  refine T.d_is_word.ok sc_is_word (fun vs H Q E h => ?_) (fun f cdv A outer s H vs Q E hr h => ?_)
  · obtain ⟨n, m, rfl, _⟩ := h
    rfl
  · obtain ⟨x, m, rfl, hx, q⟩ := h
    refine ⟨_, (pss_one (ps_ret (pe_and (pe_cmpR op_le (pe_callB call_len_str (by rfl) T.n_len PySem.boot_len (pa_cons (pv 0) pa_nil)) (pv 1) (nomark _)) (pe_one (pe_callB (cr_all rfl) (by rfl) T.n_all (by decide +kernel) (pa_cons (pe_lc (own := [("letter", 2)]) (g := gName 2) (tt := tYes) rfl sc_is_word.nd (pi_str (pv 0)) (blkOk_by (own := [("letter", 2)]) (N := ["text", "most", "letter"]) (sc := defScope s_is_word) (by decide +kernel)) (fun _ _ _ _ _ => (pg_name (i := 2) sc_is_word.nd rfl (Or.inl rfl))) (fun _ _ _ _ _ => pts_nil) (fun _ _ _ _ _ => (FK.pe_h (E := E0) H_is_letter (hr.mono (by decide)) pass0 (pa_cons (pv 2) pa_nil)))) pa_nil)))))), ?_⟩
    simp only [tSeq, tIfS, tOr, tAnd, tB, tTest, tCB, tCons, tVar, tC, tNil, tNot, tNotV, tRet, tRetN, tNext, tBreak, tOrV, tAndV, tOp, tUn, rEq, rNe, tChain, rI0, rI, rU, tAsg, gName, tDrop, tAug, ipI, tIf, tCall, tCallS, tLst, tTup, tBM, tBM0, rAppend, rExtend, rPop, rReverse, tyV, rIxL, rIxT, rIxS, rIsB, rNotB, L2.start, List.map_cons, List.map_nil, List.length_cons, List.length_nil, List.replicate, List.cons_append, List.nil_append, List.append_nil, List.getElem?_cons_zero, List.getElem?_cons_succ, List.set_cons_zero, List.set_cons_succ, Nat.reduceAdd, Nat.reduceSub, Option.some.injEq, exists_eq_left', exists_eq_left, V.int.injEq, V.bl.injEq, V.str.injEq, V.ref.injEq, List.cons.injEq, and_true, true_and, and_assoc, reduceCtorEq, false_and, exists_false, or_false, false_or, exists_and_left, exists_const, scal, Int.reduceLT, Int.reduceLE, Int.reduceSub, Int.reduceAdd, Int.reduceNeg, if_true, if_false]
    refine ⟨Nat.le_of_lt hx, ?_⟩
    unfold okWord at q
    cases e : decide ((x.length : Int) ≤ m) with
    | false =>
      rw [e] at q
      exact iteF (q H (Same.refl H))
    | true =>
      rw [e] at q
      refine iteT ?_
      have hn : ((x.cps.toList.map fun c => isLet ⟨#[c]⟩).map V.bl).length = x.cps.size := by simp
      refine FK.rd_lc_same (J := Its x) (H1 := H) ((x.cps.toList.map fun c => isLet ⟨#[c]⟩).map V.bl) (fun R r => ⟨_, rfl, x, rfl, r⟩) (by rw [hn]; exact walk_str) (fun _ _ => trivial) (by rw [hn]; exact hx) (fun _ => rfl) ?_ ?_ (fun _ _ _ _ (z : _ ∧ _) => by rw [z.1]; exact Same.refl _)
      · rintro j v z H' H'' R hz s1 ⟨rfl, c, hc, rfl⟩ go
        rw [List.getElem?_map, List.getElem?_map, Array.getElem?_toList, hc] at hz
        cases hz
        simp only [tSeq, tIfS, tOr, tAnd, tB, tTest, tCB, tCons, tVar, tC, tNil, tNot, tNotV, tRet, tRetN, tNext, tBreak, tOrV, tAndV, tOp, tUn, rEq, rNe, tChain, rI0, rI, rU, tAsg, gName, tDrop, tAug, ipI, tIf, tCall, tCallS, tLst, tTup, tBM, tBM0, rAppend, rExtend, rPop, rReverse, tyV, rIxL, rIxT, rIxS, rIsB, rNotB, L2.start, List.map_cons, List.map_nil, List.length_cons, List.length_nil, List.replicate, List.cons_append, List.nil_append, List.append_nil, List.getElem?_cons_zero, List.getElem?_cons_succ, List.set_cons_zero, List.set_cons_succ, Nat.reduceAdd, Nat.reduceSub, Option.some.injEq, exists_eq_left', exists_eq_left, V.int.injEq, V.bl.injEq, V.str.injEq, V.ref.injEq, List.cons.injEq, and_true, true_and, and_assoc, reduceCtorEq, false_and, exists_false, or_false, false_or, exists_and_left, exists_const, scal, Int.reduceLT, Int.reduceLE, Int.reduceSub, Int.reduceAdd, Int.reduceNeg, if_true, if_false, wipe]
        exact ⟨_, rfl, fun H4 s4 => go H4 s4⟩
      · intro D H' hD s1 hD2
        refine ⟨D, _, rfl, SqL.of hD2, ?_⟩
        have q2 := q H' s1
        rw [show (true && x.cps.toList.all fun c => isLet ⟨#[c]⟩) = (x.cps.toList.map fun c => isLet ⟨#[c]⟩).all id by rw [List.all_map]; rfl] at q2
        exact q2

def spCheckLong (C : Addr) : Sp := fun vs H Q E => ∃ (x : Str) (m : Int), vs = [.str x, .int m] ∧ x.length < sizeLine ∧ (m = 60 ∨ m = 200 ∨ m = 400) ∧ (okWord x m = false → ∀ H', Same H H' → E (.ref C) none H') ∧ (okWord x m = true → ∀ H', Same H H' → Q .non H')
theorem ok_check_long_word (T : Txt K mg cx) : FK.Has P w K mg base (L2.CX P w) 4 "check_long_word" ["word", "most"] (spCheckLong cx.NotWord) := by
  have H_is_word := ok_is_word (P := P) (w := w) (base := base) T
  refine T.d_check_long_word.okX sc_check_long_word (fun vs H Q E h => ?_) (fun f cdv A outer s H vs Q E hr h => ?_)
  · obtain ⟨x, m, rfl, _⟩ := h
    rfl
  · obtain ⟨x, m, rfl, hx, hm, qE, q⟩ := h
    refine ⟨_, (pss_one (ps_if (pt_not (pt_val (FK.pe_h (E := E0) H_is_word (hr.mono (by decide)) pass0 (pa_cons (pv 0) (pa_cons (pv 1) pa_nil))))) (pss_one (ps_raise rfl (takes_of rfl rfl rfl rfl) (SkE.pmk_own1 PySem.F.excBase_ValueError T.x_NotWord.x T.x_NotWord.g T.x_NotWord.k (raises_own T.x_NotWord.b T.x_NotWord.t) rfl (pe_joined (PJ.cons pe_str (PJ.cons (pe_fmt (pv 1)) (PJ.cons pe_str PJ.nil))))))) pss_nil)), ?_⟩
    simp only [tSeq, tIfS, tOr, tAnd, tB, tTest, tCB, tCons, tVar, tC, tNil, tNot, tNotV, tRet, tRetN, tNext, tBreak, tOrV, tAndV, tOp, tUn, rEq, rNe, tChain, rI0, rI, rU, tAsg, gName, tDrop, tAug, ipI, tIf, tCall, tCallS, tLst, tTup, tBM, tBM0, rAppend, rExtend, rPop, rReverse, tyV, rIxL, rIxT, rIxS, rIsB, rNotB, L2.start, List.map_cons, List.map_nil, List.length_cons, List.length_nil, List.replicate, List.cons_append, List.nil_append, List.append_nil, List.getElem?_cons_zero, List.getElem?_cons_succ, List.set_cons_zero, List.set_cons_succ, Nat.reduceAdd, Nat.reduceSub, Option.some.injEq, exists_eq_left', exists_eq_left, V.int.injEq, V.bl.injEq, V.str.injEq, V.ref.injEq, List.cons.injEq, and_true, true_and, and_assoc, reduceCtorEq, false_and, exists_false, or_false, false_or, exists_and_left, exists_const, scal, Int.reduceLT, Int.reduceLE, Int.reduceSub, Int.reduceAdd, Int.reduceNeg, if_true, if_false, tJs, tFmt]
    refine ⟨x, m, rfl, hx, fun H' hs => ⟨_, rfl, ?_⟩⟩
    cases e : okWord x m with
    | false =>
      refine iteT ?_
      rcases hm with rfl | rfl | rfl <;> exact ⟨by decide +kernel, by decide +kernel, by decide +kernel, by decide +kernel, qE e H' hs⟩
    | true => exact iteF (q e H' hs)
def spCheckWord (C : Addr) : Sp := fun vs H Q E => ∃ x : Str, vs = [.str x] ∧ x.length < sizeLine ∧ (okWord x 60 = false → ∀ H', Same H H' → E (.ref C) none H') ∧ (okWord x 60 = true → ∀ H', Same H H' → Q .non H')
theorem ok_check_word (T : Txt K mg cx) : FK.Has P w K mg base (L2.CX P w) 5 "check_word" ["word"] (spCheckWord cx.NotWord) := by
  have H_check_long_word := ok_check_long_word (P := P) (w := w) (base := base) T
  refine T.d_check_word.okX sc_check_word (fun vs H Q E h => ?_) (fun f cdv A outer s H vs Q E hr h => ?_)
  · obtain ⟨x, rfl, _⟩ := h
    rfl
  · obtain ⟨x, rfl, hx, qE, q⟩ := h
    refine ⟨_, (pss_one (ps_expr (FK.pe_h (E := E) H_check_long_word (hr.mono (by decide)) (passes_call (takes_of rfl rfl rfl rfl) (fun _ _ _ _ h => h)) (pa_cons (pv 0) (pa_cons (pe_glob (v := .int 60) rfl T.c_MOST_LETTERS ⟨_, rfl⟩) pa_nil))))), ?_⟩
    simp only [tSeq, tIfS, tOr, tAnd, tB, tTest, tCB, tCons, tVar, tC, tNil, tNot, tNotV, tRet, tRetN, tNext, tBreak, tOrV, tAndV, tOp, tUn, rEq, rNe, tChain, rI0, rI, rU, tAsg, gName, tDrop, tAug, ipI, tIf, tCall, tCallS, tLst, tTup, tBM, tBM0, rAppend, rExtend, rPop, rReverse, tyV, rIxL, rIxT, rIxS, rIsB, rNotB, L2.start, List.map_cons, List.map_nil, List.length_cons, List.length_nil, List.replicate, List.cons_append, List.nil_append, List.append_nil, List.getElem?_cons_zero, List.getElem?_cons_succ, List.set_cons_zero, List.set_cons_succ, Nat.reduceAdd, Nat.reduceSub, Option.some.injEq, exists_eq_left', exists_eq_left, V.int.injEq, V.bl.injEq, V.str.injEq, V.ref.injEq, List.cons.injEq, and_true, true_and, and_assoc, reduceCtorEq, false_and, exists_false, or_false, false_or, exists_and_left, exists_const, scal, Int.reduceLT, Int.reduceLE, Int.reduceSub, Int.reduceAdd, Int.reduceNeg, if_true, if_false]
    exact ⟨x, 60, rfl, hx, .inl rfl, qE, q⟩
theorem len3 {ns : List Int} (h : okOrders ns = true) : ∃ m0 m1 m2, ns = [m0, m1, m2] := by
  unfold okOrders at h
  rw [Bool.and_eq_true] at h
  have e := of_decide_eq_true h.1
  match ns, e with
  | [m0, m1, m2], _ => exact ⟨_, _, _, rfl⟩
theorem okOrder_bound {n : Int} (h : okOrder n = true) : 0 ≤ n ∧ n ≤ 12 := by
  unfold okOrder at h
  simp only [Bool.or_eq_true, Bool.and_eq_true, decide_eq_true_eq] at h
  omega

theorem atI_mem {cs : List V} {r : Int} (h0 : 0 ≤ r) (h1 : r < cs.length) : ∃ v, atI cs r = some v ∧ v ∈ cs := by
  obtain ⟨k, rfl⟩ := Int.eq_ofNat_of_zero_le h0
  have hk : k < cs.length := by omega
  exact ⟨cs[k], atI_nat (List.getElem?_eq_getElem hk), List.getElem_mem hk⟩
theorem joinL_nil : ∀ ps : List (List Nat), TL.joinL [] ps = ps.flatten
  | [] => rfl
  | [p] => by simp [TL.joinL]
  | p :: q :: r => by
    show p ++ ([] ++ TL.joinL [] (q :: r)) = _
    rw [joinL_nil (q :: r)]
    simp
theorem flat_signs : ∀ cs : List Nat, (cs.map (TL.tl ∘ fun c => (⟨#[c]⟩ : Str))).flatten = cs
  | [] => rfl
  | c :: cs => by
    show [c] ++ (cs.map (TL.tl ∘ fun c => (⟨#[c]⟩ : Str))).flatten = c :: cs
    rw [flat_signs cs]
    rfl
theorem join_signs (cs : List Nat) : Txt.join "" (cs.map fun c => (⟨#[c]⟩ : Str)) = ⟨cs.toArray⟩ := by
  rw [TL.join_eq]
  have h := TL.tl_join "" (cs.map fun c => (⟨#[c]⟩ : Str))
  rw [show TL.tl ("" : Str) = [] from rfl, joinL_nil, List.map_map, flat_signs] at h
  generalize Str.join "" (cs.map fun c => (⟨#[c]⟩ : Str)) = z at h
  obtain ⟨a⟩ := z
  have h2 : a.toList = cs := h
  rw [← h2, Array.toArray_toList]
theorem sum_ones : ∀ cs : List Nat, (cs.map fun _ => 1).sum = cs.length
  | [] => rfl
  | c :: cs => by
    show 1 + (cs.map fun _ => 1).sum = cs.length + 1
    rw [sum_ones cs]
    omega

def spCell (K : PySem.W.Frag) : Sp := fun vs H Q _ => ∃ (a : Addr) (ns : List Int) (k : Nat), vs = [.ref a, .int (k : Int)] ∧ SqL K H a (ns.map V.int) ∧ ∀ i, Q (.int i) H
theorem ok_law_cell (T : Txt K mg cx) : FK.Has P w K mg base CX0 1 "_law_cell" ["script", "k"] (spCell K) := by
  refine T.d_law_cell.ok sc_law_cell (fun vs H Q E h => ?_) (fun f cdv A outer s H vs Q E hr h => ?_)
  · obtain ⟨a, ns, k, rfl, _⟩ := h
    rfl
  · obtain ⟨a, ns, k, rfl, hS, q⟩ := h
    refine ⟨_, (pss_cons (ps_if (pt_cmpR op_lt (pv 1) (pe_callB call_len_seq (by rfl) T.n_len PySem.boot_len (pa_cons (pv 0) pa_nil)) (nomark _)) (pss_one (ps_ret (pe_ix (r := rIxL K) ix_list (pv 0) (pv 1) (fun _ _ => rfl)))) pss_nil)
  (pss_one (ps_ret pe_int))), ?_⟩
    simp only [tSeq, tIfS, tOr, tAnd, tB, tTest, tCB, tCons, tVar, tC, tNil, tNot, tNotV, tRet, tRetN, tNext, tBreak, tOrV, tAndV, tOp, tUn, rEq, rNe, tChain, rI0, rI, rU, tAsg, gName, tDrop, tAug, ipI, tIf, tCall, tCallS, tLst, tTup, tBM, tBM0, rAppend, rExtend, rPop, rReverse, tyV, rIxL, rIxT, rIxS, rIsB, rNotB, L2.start, List.map_cons, List.map_nil, List.length_cons, List.length_nil, List.replicate, List.cons_append, List.nil_append, List.append_nil, List.getElem?_cons_zero, List.getElem?_cons_succ, List.set_cons_zero, List.set_cons_succ, Nat.reduceAdd, Nat.reduceSub, Option.some.injEq, exists_eq_left', exists_eq_left, V.int.injEq, V.bl.injEq, V.str.injEq, V.ref.injEq, List.cons.injEq, and_true, true_and, and_assoc, reduceCtorEq, false_and, exists_false, or_false, false_or, exists_and_left, exists_const, scal, Int.reduceLT, Int.reduceLE, Int.reduceSub, Int.reduceAdd, Int.reduceNeg, if_true, if_false]
    refine ⟨_, .inl hS, ite2 (fun c => ?_) (fun c => q 0)⟩
    have hk : k < ns.length := by
      have c2 := of_decide_eq_true c
      rw [List.length_map] at c2
      omega
    exact ⟨_, hS, _, atI_nat (by rw [List.getElem?_map, List.getElem?_eq_getElem hk]; rfl), q _⟩
def spValues : Sp := fun vs H Q _ => ∃ (i : Int) (n : Nat), vs = [.int i, .int (n : Int), .int 997] ∧ n ≤ 60 ∧ ∀ L (zs : List Int) H', H L = none → Same H H' → H' L = some (.lst (zs.map V.int)) → zs.length = n → (∀ z ∈ zs, 0 ≤ z ∧ z < 997) → Q (.ref L) H'
theorem ok_law_values (T : Txt K mg cx) : FK.Has P w K mg base CX0 1 "_law_values" ["cell", "count", "size"] spValues := by
  refine T.d_law_values.ok sc_law_values (fun vs H Q E h => ?_) (fun f cdv A outer s H vs Q E hr h => ?_)
  · obtain ⟨i, n, rfl, _⟩ := h
    rfl
  · obtain ⟨i, n, rfl, hn, q⟩ := h
    refine ⟨_, (pss_cons (ps_set (i := 3) sc_law_values.nd rfl (Or.inl rfl) (by exact (pe_lst pa_nil)))
  (pss_cons (ps_set (i := 4) sc_law_values.nd rfl (Or.inl rfl) (by exact (pv 0)))
  (pss_cons (ps_for PassesOwn.never rfl (pi_range1 rfl T.n_range (pa_cons (pv 1) pa_nil)) (pg_name (i := 5) sc_law_values.nd rfl (Or.inl rfl))
  (pss_one (ps_if (pt_cmpR op_ge (pv 4) (pe_op op_pow pe_int pe_int) (nomark _)) (pss_cons (ps_expr (pe_bm PySem.F.plainAttrs_list PySem.F.slot_list_append PySem.F.type_list_append mt_append (pv 3) (pa_cons (pe_op op_mod (pe_callTy FK.call_intI (by rfl) T.n_int (by decide +kernel) (pa_cons (pv 4) pa_nil)) (pv 2)) pa_nil)))
  (pss_one (ps_set (i := 4) sc_law_values.nd rfl (Or.inl rfl) (by exact (pe_op op_fdivW (pv 4) (pv 2)))))) (pss_cons (ps_set (i := 6) sc_law_values.nd rfl (Or.inl rfl) (by exact (pe_op op_mod (pe_op op_add (pe_op op_add (pe_op op_mulW (pe_op op_mod (pe_callTy FK.call_intI (by rfl) T.n_int (by decide +kernel) (pa_cons (pv 0) pa_nil)) pe_int) pe_int) (pe_op op_mulW (pv 5) pe_int)) pe_int) pe_int)))
  (pss_one (ps_expr (pe_bm PySem.F.plainAttrs_list PySem.F.slot_list_append PySem.F.type_list_append mt_append (pv 3) (pa_cons (pe_op op_mod (pe_op op_mod (pe_op op_mulW (pv 6) pe_int) pe_int) (pv 2)) pa_nil))))))))
  (pss_one (ps_ret (pv 3)))))), ?_⟩
    simp only [tSeq, tIfS, tOr, tAnd, tB, tTest, tCB, tCons, tVar, tC, tNil, tNot, tNotV, tRet, tRetN, tNext, tBreak, tOrV, tAndV, tOp, tUn, rEq, rNe, tChain, rI0, rI, rU, tAsg, gName, tDrop, tAug, ipI, tIf, tCall, tCallS, tLst, tTup, tBM, tBM0, rAppend, rExtend, rPop, rReverse, tyV, rIxL, rIxT, rIxS, rIsB, rNotB, L2.start, List.map_cons, List.map_nil, List.length_cons, List.length_nil, List.replicate, List.cons_append, List.nil_append, List.append_nil, List.getElem?_cons_zero, List.getElem?_cons_succ, List.set_cons_zero, List.set_cons_succ, Nat.reduceAdd, Nat.reduceSub, Option.some.injEq, exists_eq_left', exists_eq_left, V.int.injEq, V.bl.injEq, V.str.injEq, V.ref.injEq, List.cons.injEq, and_true, true_and, and_assoc, reduceCtorEq, false_and, exists_false, or_false, false_or, exists_and_left, exists_const, scal, Int.reduceLT, Int.reduceLE, Int.reduceSub, Int.reduceAdd, Int.reduceNeg, if_true, if_false]
    refine ⟨Nat.zero_le _, fun L hL => ?_⟩
    refine FK.rd_for (J := Itr 0 n) (H1 := upd H L (.lst [])) (fun R r => by simp only [tSeq, tIfS, tOr, tAnd, tB, tTest, tCB, tCons, tVar, tC, tNil, tNot, tNotV, tRet, tRetN, tNext, tBreak, tOrV, tAndV, tOp, tUn, rEq, rNe, tChain, rI0, rI, rU, tAsg, gName, tDrop, tAug, ipI, tIf, tCall, tCallS, tLst, tTup, tBM, tBM0, rAppend, rExtend, rPop, rReverse, tyV, rIxL, rIxT, rIxS, rIsB, rNotB, L2.start, List.map_cons, List.map_nil, List.length_cons, List.length_nil, List.replicate, List.cons_append, List.nil_append, List.append_nil, List.getElem?_cons_zero, List.getElem?_cons_succ, List.set_cons_zero, List.set_cons_succ, Nat.reduceAdd, Nat.reduceSub, Option.some.injEq, exists_eq_left', exists_eq_left, V.int.injEq, V.bl.injEq, V.str.injEq, V.ref.injEq, List.cons.injEq, and_true, true_and, and_assoc, reduceCtorEq, false_and, exists_false, or_false, false_or, exists_and_left, exists_const, scal, Int.reduceLT, Int.reduceLE, Int.reduceSub, Int.reduceAdd, Int.reduceNeg, if_true, if_false, iRng1]; exact ⟨by omega, by omega, r⟩) walk_range
      (fun j σ H' => ∃ (zs : List Int) (rest : Int) (v5 v6 : Option V), σ = [some (.int i), some (.int (n : Int)), some (.int 997), some (.ref L), some (.int rest), v5, v6] ∧ H' L = some (.lst (zs.map V.int)) ∧ zs.length = j ∧ (∀ z ∈ zs, 0 ≤ z ∧ z < 997) ∧ Same H H')
      ⟨[], i, none, none, rfl, upd_same, rfl, (fun _ h => nomatch h), FK.same_new hL⟩ (fun _ _ _ _ _ => trivial) ?_ ?_
    · rintro j x σ H1 H2 hj ⟨zs, rest, v5, v6, rfl, eL, lz, hz, s1⟩ ⟨rfl, rfl⟩
      simp only [tSeq, tIfS, tOr, tAnd, tB, tTest, tCB, tCons, tVar, tC, tNil, tNot, tNotV, tRet, tRetN, tNext, tBreak, tOrV, tAndV, tOp, tUn, rEq, rNe, tChain, rI0, rI, rU, tAsg, gName, tDrop, tAug, ipI, tIf, tCall, tCallS, tLst, tTup, tBM, tBM0, rAppend, rExtend, rPop, rReverse, tyV, rIxL, rIxT, rIxS, rIsB, rNotB, L2.start, List.map_cons, List.map_nil, List.length_cons, List.length_nil, List.replicate, List.cons_append, List.nil_append, List.append_nil, List.getElem?_cons_zero, List.getElem?_cons_succ, List.set_cons_zero, List.set_cons_succ, Nat.reduceAdd, Nat.reduceSub, Option.some.injEq, exists_eq_left', exists_eq_left, V.int.injEq, V.bl.injEq, V.str.injEq, V.ref.injEq, List.cons.injEq, and_true, true_and, and_assoc, reduceCtorEq, false_and, exists_false, or_false, false_or, exists_and_left, exists_const, scal, Int.reduceLT, Int.reduceLE, Int.reduceSub, Int.reduceAdd, Int.reduceNeg, if_true, if_false]
      have e1 : ∀ y : Int, 0 ≤ y % 997 ∧ y % 997 < 997 := fun y => ⟨Int.emod_nonneg _ (by decide), Int.emod_lt_of_pos _ (by decide)⟩
      have le : (zs.map V.int).length < sizeLine := by
        rw [List.length_map, lz]
        exact Nat.lt_of_lt_of_le (show j < 1000 by omega) (by decide)
      have st : ∀ y : Int, 0 ≤ y ∧ y < 997 → ∃ zs2 : List Int, upd H2 L (.lst (zs.map V.int ++ [.int y])) L = some (.lst (zs2.map V.int)) ∧ zs2.length = j + 1 ∧ (∀ z ∈ zs2, 0 ≤ z ∧ z < 997) ∧ Same H (upd H2 L (.lst (zs.map V.int ++ [.int y]))) := fun y hy => by
        refine ⟨zs ++ [y], by rw [upd_same, List.map_append]; rfl, by simp [lz], fun z hz2 => ?_, fun b o e => ?_⟩
        · rcases List.mem_append.mp hz2 with h | h
          · exact hz z h
          · rw [List.mem_singleton.mp h]; exact hy
        · rw [upd_ne (fun z => by rw [z, hL] at e; cases e)]
          exact s1 b o e
      have cm : ∀ x y : Int, 0 ≤ x → x < 2147483648 → 0 ≤ y → y < 2147483648 → CMulW x y := fun x y h1 h2 h3 h4 => by
        have lg : ∀ z : Int, 0 ≤ z → z < 2147483648 → z.natAbs.log2 < 32 := fun z z1 z2 => by
          by_cases c : z.natAbs = 0
          · rw [c]; decide
          · exact (Nat.log2_lt c).2 (by omega)
        have a1 := lg x h1 h2
        have a2 := lg y h3 h4
        show _ + _ < 1000000
        omega
      have m0 : 0 ≤ i % 2147483647 ∧ i % 2147483647 < 2147483647 := ⟨Int.emod_nonneg _ (by decide), Int.emod_lt_of_pos _ (by decide)⟩
      refine ⟨⟨by decide, by decide, by decide⟩, ite2 (fun c => ?_) (fun c => ?_)⟩
      · obtain ⟨zs2, a1, a2, a3, a4⟩ := st _ (e1 rest)
        exact ⟨.inl ⟨_, SqL.of eL⟩, _, eL, le, ⟨by decide, by decide⟩, zs2, a1, a2, a3, a4⟩
      · have m1 : ∀ y : Int, 0 ≤ y % 2147483647 ∧ y % 2147483647 < 2147483647 := fun y => ⟨Int.emod_nonneg _ (by decide), Int.emod_lt_of_pos _ (by decide)⟩
        obtain ⟨zs2, a1, a2, a3, a4⟩ := st _ (e1 ((((i % 2147483647 * 48271 + (0 + (j : Int)) * 69621 + 7) % 2147483647) * 16807) % 2147483647))
        have m2 := m1 (i % 2147483647 * 48271 + (0 + (j : Int)) * 69621 + 7)
        refine ⟨cm _ _ m0.1 (by omega) (by decide) (by decide), cm _ _ (by omega) (by omega) (by decide) (by decide), .inl ⟨_, SqL.of eL⟩, cm _ _ m2.1 (by omega) (by decide) (by decide), _, eL, le, zs2, a1, a2, a3, a4⟩
    · rintro σ H1 ⟨zs, rest, v5, v6, rfl, eL, lz, hz, s1⟩
      simp only [tSeq, tIfS, tOr, tAnd, tB, tTest, tCB, tCons, tVar, tC, tNil, tNot, tNotV, tRet, tRetN, tNext, tBreak, tOrV, tAndV, tOp, tUn, rEq, rNe, tChain, rI0, rI, rU, tAsg, gName, tDrop, tAug, ipI, tIf, tCall, tCallS, tLst, tTup, tBM, tBM0, rAppend, rExtend, rPop, rReverse, tyV, rIxL, rIxT, rIxS, rIsB, rNotB, L2.start, List.map_cons, List.map_nil, List.length_cons, List.length_nil, List.replicate, List.cons_append, List.nil_append, List.append_nil, List.getElem?_cons_zero, List.getElem?_cons_succ, List.set_cons_zero, List.set_cons_succ, Nat.reduceAdd, Nat.reduceSub, Option.some.injEq, exists_eq_left', exists_eq_left, V.int.injEq, V.bl.injEq, V.str.injEq, V.ref.injEq, List.cons.injEq, and_true, true_and, and_assoc, reduceCtorEq, false_and, exists_false, or_false, false_or, exists_and_left, exists_const, scal, Int.reduceLT, Int.reduceLE, Int.reduceSub, Int.reduceAdd, Int.reduceNeg, if_true, if_false]
      exact q L zs H1 hL s1 eL lz hz

end
end K35

namespace K35
open PySem PySem.Spec PyProof.Rows L2 Cox
section
variable {P : Program} {w : World} {K : PySem.W.Frag} {mg : Str → Option Value} {base : Heap} {cx : Xs}
theorem back {H H' : Hp} {p : Addr} (s : Same H H') (h : H' p = none) : H p = none := by
  cases e : H p with
  | none => rfl
  | some o => rw [s p o e] at h; cases h
/-- a while loop by an invariant with its measure -/
theorem rd_while {c : TT} {tb : TS} {D : Ends} {σ : L2.St} {H : Hp} (Pv : Nat → L2.St → Hp → Prop) (m : Nat) (h0 : Pv m σ H)
    (hs : ∀ m σ H, Pv m σ H → c σ H fun b H1 => if b = true then tb { D with nx := fun σ' H' => ∃ m', m' < m ∧ Pv m' σ' H', ct := fun σ' H' => ∃ m', m' < m ∧ Pv m' σ' H', bk := D.nx } σ H1 else D.nx σ H1)
    (mono : ∀ σ H Q Q', (∀ b H1, Q b H1 → Q' b H1) → c σ H Q → c σ H Q') : tWhile c tb D σ H := by
  refine ⟨Pv, ⟨m, h0⟩, fun m σ H p => mono σ H _ _ (fun b H1 q => ?_) (hs m σ H p)⟩
  cases b with
  | true => exact iteT ⟨_, fun _ _ z => z, by simpa using q⟩
  | false => simpa using q
theorem lt_shift {x y : Int} {a b : Nat} (ha : x.natAbs < 2 ^ a) (hb : y.natAbs < 2 ^ b) (h : a + b ≤ 1000000) (a0 : 0 < a) (b0 : 0 < b) : CMulW x y := wide_mul ha hb a0 b0 h
theorem cshl {x : Int} {k bits : Nat} (h : x.natAbs < 2 ^ k) (h0 : 0 < k) (hk : k + bits ≤ 2 ^ 27) : CShl x (bits : Int) := by
  refine ⟨by omega, ?_⟩
  have e : Builtin.Int.intBits x ≤ k := by
    unfold Builtin.Int.intBits
    split
    · omega
    · have := PySem.Flt.log2_lt_of h0 h
      omega
  have e2 : ((2 : Int) ^ 27) = 134217728 := by decide
  have e3 : (2 ^ 27 : Nat) = 134217728 := by decide
  omega
theorem pow2 (bits : Nat) : ((2 : Int) ^ bits) = ((2 ^ bits : Nat) : Int) := by simp
theorem sine_at {d : Int} {bits k j : Nat} (h : sineOk d bits k = true) (hj : j ≤ k) : (sineF d (2 ^ bits) j).1.natAbs < 2 ^ (bits + 60) ∧ (sineF d (2 ^ bits) j).2.1.natAbs < 2 ^ (bits + 60) ∧ (sineF d (2 ^ bits) j).2.2.1.natAbs < 2 ^ (bits + 60) ∧ (sineF d (2 ^ bits) j).2.2.2.natAbs < 2 ^ (bits + 60) := by
  have := List.all_eq_true.mp h j (List.mem_range.mpr (by omega))
  simp only [Bool.and_eq_true, decide_eq_true_eq] at this
  exact this
def spSine : Sp := fun vs H Q _ => ∃ (n bits : Nat) (d : Int), vs = [.int (n : Int), .int d, .int (bits : Int)] ∧ 1 ≤ n ∧ n ≤ 12 ∧ bits ≤ 9000 ∧ d.natAbs < 2 ^ (bits + 2) ∧ sineOk d bits (n - 1) = true ∧
  ∀ p H', Same H H' → H p = none → H' p = some (.tup [.int (sineF d (2 ^ bits) (n - 1)).2.1, .int (sineF d (2 ^ bits) (n - 1)).2.2.2]) → Q (.ref p) H'
theorem ok_sine_ratio (T : Txt K mg cx) : FK.Has P w K mg base CX0 1 "sine_ratio" ["order", "double", "bits"] spSine := by
  refine T.d_sine_ratio.ok sc_sine_ratio (fun vs H Q E h => ?_) (fun f cdv A outer s H vs Q E hr h => ?_)
  · obtain ⟨n, bits, d, rfl, _⟩ := h
    rfl
  · obtain ⟨n, bits, d, rfl, n1, n2, hb, hd, ok, q⟩ := h
    refine ⟨_, (pss_cons (ps_par (i := 4) (j := 5) (by rfl) sc_sine_ratio.nd rfl rfl (by decide) rfl rfl (pa_cons pe_int (pa_cons (pe_op op_shlN pe_int (pv 2)) pa_nil)) (by first | rfl | kernel_rfl | with_unfolding_all rfl))
  (pss_cons (ps_asg (pe_tup (pa_cons pe_int (pa_cons pe_int pa_nil))) (pg_tup rfl (pgs_cons (pg_name (i := 6) sc_sine_ratio.nd rfl (Or.inl rfl)) (pgs_cons (pg_name (i := 7) sc_sine_ratio.nd rfl (Or.inl rfl)) pgs_nil))))
  (pss_cons (ps_for PassesOwn.never rfl (pi_range1 rfl T.n_range (pa_cons (pe_op op_sub (pv 0) pe_int) pa_nil)) (pg_name (i := 3) sc_sine_ratio.nd rfl (Or.inl rfl))
  (pss_cons (ps_par (i := 6) (j := 7) (by rfl) sc_sine_ratio.nd rfl rfl (by decide) rfl rfl (pa_cons (pv 7) (pa_cons (pe_op op_sub (pe_op op_add (pv 5) (pe_op op_shrN (pe_op op_mulW (pv 1) (pv 7)) (pv 2))) (pv 6)) pa_nil)) (by first | rfl | kernel_rfl | with_unfolding_all rfl))
  (pss_one (ps_par (i := 4) (j := 5) (by rfl) sc_sine_ratio.nd rfl rfl (by decide) rfl rfl (pa_cons (pv 5) (pa_cons (pe_op op_sub (pe_op op_shrN (pe_op op_mulW (pv 1) (pv 5)) (pv 2)) (pv 4)) pa_nil)) (by first | rfl | kernel_rfl | with_unfolding_all rfl)))))
  (pss_one (ps_ret (pe_tup (pa_cons (pv 5) (pa_cons (pv 7) pa_nil)))))))), ?_⟩
    simp only [tSeq, tIfS, tOr, tAnd, tB, tTest, tCB, tCons, tVar, tC, tNil, tNot, tNotV, tRet, tRetN, tNext, tBreak, tOrV, tAndV, tOp, tUn, rEq, rNe, tChain, rI0, rI, rU, tAsg, gName, tDrop, tAug, ipI, tIf, tCall, tCallS, tLst, tTup, tBM, tBM0, rAppend, rExtend, rPop, rReverse, tyV, rIxL, rIxT, rIxS, rIsB, rNotB, L2.start, List.map_cons, List.map_nil, List.length_cons, List.length_nil, List.replicate, List.cons_append, List.nil_append, List.append_nil, List.getElem?_cons_zero, List.getElem?_cons_succ, List.set_cons_zero, List.set_cons_succ, Nat.reduceAdd, Nat.reduceSub, Option.some.injEq, exists_eq_left', exists_eq_left, V.int.injEq, V.bl.injEq, V.str.injEq, V.ref.injEq, List.cons.injEq, and_true, true_and, and_assoc, reduceCtorEq, false_and, exists_false, or_false, false_or, exists_and_left, exists_const, scal, Int.reduceLT, Int.reduceLE, Int.reduceSub, Int.reduceAdd, Int.reduceNeg, if_true, if_false, tPar, iRng1]
    refine ⟨bits, rfl, cshl (x := 1) (k := 1) (by decide) (by omega) (by omega), by decide, fun p0 hp0 => ⟨p0, _, rfl, SqT.of upd_same, rfl, _, _, rfl, _, _, rfl, rfl, ?_⟩⟩
    refine FK.rd_for (J := Itr 0 (n - 1)) (H1 := upd H p0 (.tup [.int 0, .int 0])) (fun R r => by simp only [tSeq, tIfS, tOr, tAnd, tB, tTest, tCB, tCons, tVar, tC, tNil, tNot, tNotV, tRet, tRetN, tNext, tBreak, tOrV, tAndV, tOp, tUn, rEq, rNe, tChain, rI0, rI, rU, tAsg, gName, tDrop, tAug, ipI, tIf, tCall, tCallS, tLst, tTup, tBM, tBM0, rAppend, rExtend, rPop, rReverse, tyV, rIxL, rIxT, rIxS, rIsB, rNotB, L2.start, List.map_cons, List.map_nil, List.length_cons, List.length_nil, List.replicate, List.cons_append, List.nil_append, List.append_nil, List.getElem?_cons_zero, List.getElem?_cons_succ, List.set_cons_zero, List.set_cons_succ, Nat.reduceAdd, Nat.reduceSub, Option.some.injEq, exists_eq_left', exists_eq_left, V.int.injEq, V.bl.injEq, V.str.injEq, V.ref.injEq, List.cons.injEq, and_true, true_and, and_assoc, reduceCtorEq, false_and, exists_false, or_false, false_or, exists_and_left, exists_const, scal, Int.reduceLT, Int.reduceLE, Int.reduceSub, Int.reduceAdd, Int.reduceNeg, if_true, if_false, iRng1]; exact ⟨by omega, by omega, by rw [show ((n : Int) - 1).toNat = n - 1 by omega]; exact r⟩) walk_range
      (fun i σ H' => ∃ v3 : Option V, σ = [some (.int n), some (.int d), some (.int bits), v3, some (.int (sineF d (2 ^ bits) i).1), some (.int (sineF d (2 ^ bits) i).2.1), some (.int (sineF d (2 ^ bits) i).2.2.1), some (.int (sineF d (2 ^ bits) i).2.2.2)] ∧ H' = upd H p0 (.tup [.int 0, .int 0]))
      ⟨none, by rw [show (1 : Int) * 2 ^ bits = 2 ^ bits by omega]; rfl, rfl⟩ (fun _ _ _ _ _ => trivial) ?_ ?_
    · rintro i x σ H1 H2 hi ⟨v3, rfl, rfl⟩ ⟨rfl, rfl⟩
      obtain ⟨s1, s2, s3, s4⟩ := sine_at ok (j := i) (by omega)
      simp only [tSeq, tIfS, tOr, tAnd, tB, tTest, tCB, tCons, tVar, tC, tNil, tNot, tNotV, tRet, tRetN, tNext, tBreak, tOrV, tAndV, tOp, tUn, rEq, rNe, tChain, rI0, rI, rU, tAsg, gName, tDrop, tAug, ipI, tIf, tCall, tCallS, tLst, tTup, tBM, tBM0, rAppend, rExtend, rPop, rReverse, tyV, rIxL, rIxT, rIxS, rIsB, rNotB, L2.start, List.map_cons, List.map_nil, List.length_cons, List.length_nil, List.replicate, List.cons_append, List.nil_append, List.append_nil, List.getElem?_cons_zero, List.getElem?_cons_succ, List.set_cons_zero, List.set_cons_succ, Nat.reduceAdd, Nat.reduceSub, Option.some.injEq, exists_eq_left', exists_eq_left, V.int.injEq, V.bl.injEq, V.str.injEq, V.ref.injEq, List.cons.injEq, and_true, true_and, and_assoc, reduceCtorEq, false_and, exists_false, or_false, false_or, exists_and_left, exists_const, scal, Int.reduceLT, Int.reduceLE, Int.reduceSub, Int.reduceAdd, Int.reduceNeg, if_true, if_false, tPar]
      refine ⟨lt_shift hd s4 (by omega) (by omega) (by omega), bits, rfl, lt_shift hd s2 (by omega) (by omega) (by omega), bits, rfl, ?_⟩
      simp [sineF]
    · rintro σ H1 ⟨v3, rfl, rfl⟩
      simp only [tSeq, tIfS, tOr, tAnd, tB, tTest, tCB, tCons, tVar, tC, tNil, tNot, tNotV, tRet, tRetN, tNext, tBreak, tOrV, tAndV, tOp, tUn, rEq, rNe, tChain, rI0, rI, rU, tAsg, gName, tDrop, tAug, ipI, tIf, tCall, tCallS, tLst, tTup, tBM, tBM0, rAppend, rExtend, rPop, rReverse, tyV, rIxL, rIxT, rIxS, rIsB, rNotB, L2.start, List.map_cons, List.map_nil, List.length_cons, List.length_nil, List.replicate, List.cons_append, List.nil_append, List.append_nil, List.getElem?_cons_zero, List.getElem?_cons_succ, List.set_cons_zero, List.set_cons_succ, Nat.reduceAdd, Nat.reduceSub, Option.some.injEq, exists_eq_left', exists_eq_left, V.int.injEq, V.bl.injEq, V.str.injEq, V.ref.injEq, List.cons.injEq, and_true, true_and, and_assoc, reduceCtorEq, false_and, exists_false, or_false, false_or, exists_and_left, exists_const, scal, Int.reduceLT, Int.reduceLE, Int.reduceSub, Int.reduceAdd, Int.reduceNeg, if_true, if_false]
      exact ⟨by decide, fun p hp => q p _ ((FK.same_new hp0).trans (FK.same_new hp)) (back (FK.same_new hp0) hp) upd_same⟩
def spBend : Sp := fun vs H Q _ => ∃ (n bits : Nat), vs = [.int (n : Int), .int (bits : Int)] ∧ n ≤ 12 ∧ n ≠ 1 ∧ bits ≤ 2500 ∧ (n = 0 ∨ bendOk n bits 40 (2 * 2 ^ bits) = true) ∧
  ∀ H', Same H H' → Q (.int (bendF n bits)) H'
theorem ok_bend_of (T : Txt K mg cx) : FK.Has P w K mg base CX0 2 "bend_of" ["order", "bits"] spBend := by
  have H_sine_ratio := ok_sine_ratio (P := P) (w := w) (base := base) T
  refine T.d_bend_of.ok sc_bend_of (fun vs H Q E h => ?_) (fun f cdv A outer s H vs Q E hr h => ?_)
  · obtain ⟨n, bits, rfl, _⟩ := h
    rfl
  · obtain ⟨n, bits, rfl, hn, n1, hb, ok, q⟩ := h
    refine ⟨_, (pss_cons (ps_set (i := 2) sc_bend_of.nd rfl (Or.inl rfl) (by exact (pe_op op_shlN pe_int (pv 1))))
  (pss_cons (ps_if (pt_cmpR op_eq (pv 0) pe_int (nomark _)) (pss_one (ps_ret (pv 2))) pss_nil)
  (pss_one (ps_while PassesOwn.never (pt_val pe_bl) (pss_cons (ps_asg (FK.pe_h (E := E0) H_sine_ratio (hr.mono (by decide)) pass0 (pa_cons (pv 0) (pa_cons (pv 2) (pa_cons (pv 1) pa_nil)))) (pg_tup rfl (pgs_cons (pg_name (i := 4) sc_bend_of.nd rfl (Or.inl rfl)) (pgs_cons (pg_name (i := 5) sc_bend_of.nd rfl (Or.inl rfl)) pgs_nil))))
  (pss_cons (ps_set (i := 3) sc_bend_of.nd rfl (Or.inl rfl) (by exact (pe_op op_fdivW (pe_op op_shlN (pv 4) (pv 1)) (pv 5))))
  (pss_cons (ps_if (pt_cmpR op_le (pv 3) pe_int (nomark _)) (pss_one (ps_ret (pv 2))) pss_nil)
  (pss_one (ps_set (i := 2) sc_bend_of.nd rfl (Or.inl rfl) (by exact (pe_op op_sub (pv 2) (pv 3)))))))))))), ?_⟩
    simp only [tSeq, tIfS, tOr, tAnd, tB, tTest, tCB, tCons, tVar, tC, tNil, tNot, tNotV, tRet, tRetN, tNext, tBreak, tOrV, tAndV, tOp, tUn, rEq, rNe, tChain, rI0, rI, rU, tAsg, gName, tDrop, tAug, ipI, tIf, tCall, tCallS, tLst, tTup, tBM, tBM0, rAppend, rExtend, rPop, rReverse, tyV, rIxL, rIxT, rIxS, rIsB, rNotB, L2.start, List.map_cons, List.map_nil, List.length_cons, List.length_nil, List.replicate, List.cons_append, List.nil_append, List.append_nil, List.getElem?_cons_zero, List.getElem?_cons_succ, List.set_cons_zero, List.set_cons_succ, Nat.reduceAdd, Nat.reduceSub, Option.some.injEq, exists_eq_left', exists_eq_left, V.int.injEq, V.bl.injEq, V.str.injEq, V.ref.injEq, List.cons.injEq, and_true, true_and, and_assoc, reduceCtorEq, false_and, exists_false, or_false, false_or, exists_and_left, exists_const, scal, Int.reduceLT, Int.reduceLE, Int.reduceSub, Int.reduceAdd, Int.reduceNeg, if_true, if_false]
    refine ⟨bits, rfl, cshl (x := 2) (k := 2) (by decide) (by omega) (by omega), ?_⟩
    refine ite2 (fun c => ?_) (fun c => ?_)
    · have e : n = 0 := by
        have := of_decide_eq_true c
        omega
      have e2 : bendF n bits = 2 * 2 ^ bits := by
        unfold bendF
        rw [if_pos e]
      rw [← e2]
      exact q H (Same.refl H)
    · have n0 : n ≠ 0 := fun z => c (by rw [z]; rfl)
      have ok := ok.resolve_left n0
      refine rd_while (fun m σ H' => ∃ (bend : Int) (v3 v4 v5 : Option V), σ = [some (.int n), some (.int bits), some (.int bend), v3, v4, v5] ∧ bendOk n bits m bend = true ∧ bendLoop n (2 ^ bits) m bend = bendF n bits ∧ Same H H') 40
        ⟨2 * 2 ^ bits, none, none, none, rfl, ok, by unfold bendF; rw [if_neg n0], Same.refl H⟩ ?_ (fun σ H Q Q' hQ h => by
          simp only [tSeq, tIfS, tOr, tAnd, tB, tTest, tCB, tCons, tVar, tC, tNil, tNot, tNotV, tRet, tRetN, tNext, tBreak, tOrV, tAndV, tOp, tUn, rEq, rNe, tChain, rI0, rI, rU, tAsg, gName, tDrop, tAug, ipI, tIf, tCall, tCallS, tLst, tTup, tBM, tBM0, rAppend, rExtend, rPop, rReverse, tyV, rIxL, rIxT, rIxS, rIsB, rNotB, L2.start, List.map_cons, List.map_nil, List.length_cons, List.length_nil, List.replicate, List.cons_append, List.nil_append, List.append_nil, List.getElem?_cons_zero, List.getElem?_cons_succ, List.set_cons_zero, List.set_cons_succ, Nat.reduceAdd, Nat.reduceSub, Option.some.injEq, exists_eq_left', exists_eq_left, V.int.injEq, V.bl.injEq, V.str.injEq, V.ref.injEq, List.cons.injEq, and_true, true_and, and_assoc, reduceCtorEq, false_and, exists_false, or_false, false_or, exists_and_left, exists_const, scal, Int.reduceLT, Int.reduceLE, Int.reduceSub, Int.reduceAdd, Int.reduceNeg, if_true, if_false] at h ⊢
          exact hQ _ _ h)
      rintro m σ H1 ⟨bend, v3, v4, v5, rfl, o1, o2, s1⟩
      match m, o1, o2 with
      | m + 1, o1, o2 =>
        unfold bendOk at o1
        have o2 : (if (sineF bend (2 ^ bits) (n - 1)).2.1 * 2 ^ bits / (sineF bend (2 ^ bits) (n - 1)).2.2.2 ≤ 0 then bend else bendLoop n (2 ^ bits) m (bend - (sineF bend (2 ^ bits) (n - 1)).2.1 * 2 ^ bits / (sineF bend (2 ^ bits) (n - 1)).2.2.2)) = bendF n bits := o2
        simp only [Bool.and_eq_true, decide_eq_true_eq] at o1
        obtain ⟨b1, b2, b3, b4⟩ := o1
        obtain ⟨g1, g2, g3, g4⟩ := sine_at b2 (Nat.le_refl _)
        simp only [tSeq, tIfS, tOr, tAnd, tB, tTest, tCB, tCons, tVar, tC, tNil, tNot, tNotV, tRet, tRetN, tNext, tBreak, tOrV, tAndV, tOp, tUn, rEq, rNe, tChain, rI0, rI, rU, tAsg, gName, tDrop, tAug, ipI, tIf, tCall, tCallS, tLst, tTup, tBM, tBM0, rAppend, rExtend, rPop, rReverse, tyV, rIxL, rIxT, rIxS, rIsB, rNotB, L2.start, List.map_cons, List.map_nil, List.length_cons, List.length_nil, List.replicate, List.cons_append, List.nil_append, List.append_nil, List.getElem?_cons_zero, List.getElem?_cons_succ, List.set_cons_zero, List.set_cons_succ, Nat.reduceAdd, Nat.reduceSub, Option.some.injEq, exists_eq_left', exists_eq_left, V.int.injEq, V.bl.injEq, V.str.injEq, V.ref.injEq, List.cons.injEq, and_true, true_and, and_assoc, reduceCtorEq, false_and, exists_false, or_false, false_or, exists_and_left, exists_const, scal, Int.reduceLT, Int.reduceLE, Int.reduceSub, Int.reduceAdd, Int.reduceNeg, if_true, if_false]
        refine ⟨n, bits, bend, rfl, by omega, hn, by omega, b1, b2, fun p H2 s2 hp e2 => ?_⟩
        refine ⟨p, _, rfl, SqT.of e2, rfl, _, _, rfl, _, _, rfl, rfl, ?_⟩
        simp only [tSeq, tIfS, tOr, tAnd, tB, tTest, tCB, tCons, tVar, tC, tNil, tNot, tNotV, tRet, tRetN, tNext, tBreak, tOrV, tAndV, tOp, tUn, rEq, rNe, tChain, rI0, rI, rU, tAsg, gName, tDrop, tAug, ipI, tIf, tCall, tCallS, tLst, tTup, tBM, tBM0, rAppend, rExtend, rPop, rReverse, tyV, rIxL, rIxT, rIxS, rIsB, rNotB, L2.start, List.map_cons, List.map_nil, List.length_cons, List.length_nil, List.replicate, List.cons_append, List.nil_append, List.append_nil, List.getElem?_cons_zero, List.getElem?_cons_succ, List.set_cons_zero, List.set_cons_succ, Nat.reduceAdd, Nat.reduceSub, Option.some.injEq, exists_eq_left', exists_eq_left, V.int.injEq, V.bl.injEq, V.str.injEq, V.ref.injEq, List.cons.injEq, and_true, true_and, and_assoc, reduceCtorEq, false_and, exists_false, or_false, false_or, exists_and_left, exists_const, scal, Int.reduceLT, Int.reduceLE, Int.reduceSub, Int.reduceAdd, Int.reduceNeg, if_true, if_false]
        refine ⟨bits, rfl, cshl g2 (by omega) (by omega), ⟨b3, Nat.lt_of_lt_of_le (PySem.Flt.log2_lt_of (by omega) g4) (by omega)⟩, ?_⟩
        refine ite2 (fun c => ?_) (fun c => ?_)
        · have c := of_decide_eq_true c
          rw [if_pos c] at o2
          rw [o2]
          exact q H2 (s1.trans s2)
        · have c := (fun z => c (decide_eq_true z) : ¬ _)
          rw [if_neg c] at o2 b4
          exact ⟨m, by omega, b4, o2, s1.trans s2⟩
/-- three whole numbers by letter -/
def v3i (D : Fin 3 → Int) : List V := [.int (D 0), .int (D 1), .int (D 2)]
def bendT (a b c bits : Nat) : Fin 3 → Fin 3 → Int := tri 0 (bendF a bits) (bendF b bits) (bendF c bits)
/-- the scale of this many bits -/
def ScAt (K : PySem.W.Frag) (H : Hp) (p : Addr) (a b c bits : Nat) : Prop :=
  ∃ bt : Addr, H p = some (.tup [.int (bits : Int), .ref bt]) ∧ H bt = some (.tup [.int (bendF a bits), .int (bendF b bits), .int (bendF c bits)])
theorem ScAt.same {H H' : Hp} {p : Addr} {a b c bits : Nat} (h : ScAt K H p a b c bits) (s : Same H H') : ScAt K H' p a b c bits := by
  obtain ⟨bt, h1, h2⟩ := h
  exact ⟨bt, s _ _ h1, s _ _ h2⟩
def bitsOf (s : Nat) : Nat := 256 * (s + 1) + 32
def spScaleFor (K : PySem.W.Frag) : Sp := fun vs H Q _ => ∃ (o : Addr) (a b c s : Nat), vs = [.ref o, .int ((128 * (s + 1) : Nat) : Int)] ∧ SqT K H o [.int (a : Int), .int (b : Int), .int (c : Int)] ∧ okOrd a ∧ okOrd b ∧ okOrd c ∧ s < 8 ∧
  ∀ p H', Same H H' → H p = none → ScAt K H' p a b c (bitsOf s) → Q (.ref p) H'
theorem ok_scale_for (T : Txt K mg cx) : FK.Has P w K mg base CX0 3 "scale_for" ["orders", "steps"] (spScaleFor K) := by
  have H_bend_of := ok_bend_of (P := P) (w := w) (base := base) T
  refine T.d_scale_for.ok sc_scale_for (fun vs H Q E h => ?_) (fun f cdv A outer s H vs Q E hr h => ?_)
  · obtain ⟨o, a, b, c, s, rfl, _⟩ := h
    rfl
  · obtain ⟨o, a, b, c, s, rfl, hS, ha, hb, hc, hs, q⟩ := h
    refine ⟨_, (pss_cons (ps_set (i := 2) sc_scale_for.nd rfl (Or.inr rfl) (by exact (pe_op op_add (pe_op op_mulW pe_int (pv 1)) (pe_glob (v := .int 32) rfl T.c_GUARD ⟨_, rfl⟩))))
  (pss_one (ps_ret (pe_tup (pa_cons (pv 2) (pa_cons (pe_callTy call_tuple_of (by rfl) T.n_tuple (by decide +kernel) (pa_cons (pe_lc (own := [("order", 3)]) (g := gName 3) (tt := tYes) rfl sc_scale_for.nd (pi_tup (pv 0)) (blkOk_by (own := [("order", 3)]) (N := ["orders", "steps", "bits", "order"]) (sc := defScope s_scale_for) (by decide +kernel)) (fun _ _ _ _ _ => (pg_name (i := 3) sc_scale_for.nd rfl (Or.inl rfl))) (fun _ _ _ _ _ => pts_nil) (fun _ _ _ _ _ => (FK.pe_h (E := E0) H_bend_of (hr.mono (by decide)) pass0 (pa_cons (pv 3) (pa_cons (pv 2) pa_nil))))) pa_nil)) pa_nil)))))), ?_⟩
    simp only [tSeq, tIfS, tOr, tAnd, tB, tTest, tCB, tCons, tVar, tC, tNil, tNot, tNotV, tRet, tRetN, tNext, tBreak, tOrV, tAndV, tOp, tUn, rEq, rNe, tChain, rI0, rI, rU, tAsg, gName, tDrop, tAug, ipI, tIf, tCall, tCallS, tLst, tTup, tBM, tBM0, rAppend, rExtend, rPop, rReverse, tyV, rIxL, rIxT, rIxS, rIsB, rNotB, L2.start, List.map_cons, List.map_nil, List.length_cons, List.length_nil, List.replicate, List.cons_append, List.nil_append, List.append_nil, List.getElem?_cons_zero, List.getElem?_cons_succ, List.set_cons_zero, List.set_cons_succ, Nat.reduceAdd, Nat.reduceSub, Option.some.injEq, exists_eq_left', exists_eq_left, V.int.injEq, V.bl.injEq, V.str.injEq, V.ref.injEq, List.cons.injEq, and_true, true_and, and_assoc, reduceCtorEq, false_and, exists_false, or_false, false_or, exists_and_left, exists_const, scal, Int.reduceLT, Int.reduceLE, Int.reduceSub, Int.reduceAdd, Int.reduceNeg, if_true, if_false]
    have eb : 2 * ((128 * (s + 1) : Nat) : Int) + 32 = ((bitsOf s : Nat) : Int) := by unfold bitsOf; omega
    have hbl : bitsOf s ≤ 2500 := by unfold bitsOf; omega
    have le12 : ∀ {n : Nat}, okOrd n → n ≤ 12 ∧ n ≠ 1 := fun {n} h => by rcases h with h | h <;> omega
    have okb : ∀ {n : Nat}, okOrd n → (n = 0 ∨ bendOk n (bitsOf s) 40 (2 * 2 ^ bitsOf s) = true) := fun {n} h => by
      by_cases z : n = 0
      · exact .inl z
      · exact .inr (bendOk_of hs h z)
    rw [eb]
    refine ⟨wide_mul (a := 2) (b := 30) (by decide) (by omega) (by decide) (by decide) (by decide), ?_⟩
    refine FK.rd_lc_same (J := Itt K o) (H1 := H) [.int (bendF a (bitsOf s)), .int (bendF b (bitsOf s)), .int (bendF c (bitsOf s))] (fun R r => ⟨_, rfl, o, rfl, ⟨_, hS⟩, r⟩) (walk_tup (xs := [V.int (a : Int), .int (b : Int), .int (c : Int)])) (fun H' s' => FK.Same.tupS s' hS) (by show 3 < 16777216; decide) (fun _ => rfl) ?_ ?_ (fun _ _ _ _ z => by obtain ⟨rfl, _⟩ := z; exact Same.refl _)
    · rintro j x z H' H'' R hz s1 ⟨rfl, hx⟩ go
      have one : ∀ (n : Nat), okOrd n → x = .int (n : Int) → z = .int (bendF n (bitsOf s)) → tCall spBend [] E0 (tCons (tVar 3) (tCons (tVar 2) tNil)) ((wipe [some (V.ref o), some (V.int ↑(128 * (s + 1))), some (V.int (bitsOf s : Nat)), none] [3]).set 3 (some x)) H'' R := by
        rintro n hn rfl rfl
        exact ⟨_, rfl, _, rfl, n, bitsOf s, rfl, (le12 hn).1, (le12 hn).2, hbl, okb hn, fun H4 s4 => go H4 s4⟩
      match j, hz, hx with
      | 0, hz, hx => cases hz; cases hx; exact one a ha rfl rfl
      | 1, hz, hx => cases hz; cases hx; exact one b hb rfl rfl
      | 2, hz, hx => cases hz; cases hx; exact one c hc rfl rfl
      | _ + 3, hz, _ => simp at hz
    · intro D H' hD s1 hD2
      refine ⟨D, rfl, _, .inl ⟨SqL.of hD2, fun l hl => ⟨by decide, fun p hp => q p _ ?_ ?_ ⟨l, upd_same, ?_⟩⟩⟩⟩
      · exact (s1.trans (FK.same_new hl)).trans (FK.same_new hp)
      · exact back s1 (back (FK.same_new hl) hp)
      · rw [upd_ne (fun z => by rw [← z, upd_same] at hp; cases hp), upd_same]

def TT (s : Nat) : Int := ((2 ^ bitsOf s : Nat) : Int)
theorem TT_pow (s : Nat) : ((2 : Int) ^ bitsOf s) = TT s := by simp [TT]
def spFirst (K : PySem.W.Frag) : Sp := fun vs H Q _ => ∃ (sc : Addr) (a b c s : Nat), vs = [.ref sc] ∧ ScAt K H sc a b c (bitsOf s) ∧ s < 8 ∧
  ∀ p H', Same H H' → H p = none → H' p = some (.tup (v3i fun _ => TT s)) → Q (.ref p) H'
theorem ok_first_depths (T : Txt K mg cx) : FK.Has P w K mg base CX0 1 "first_depths" ["scale"] (spFirst K) := by
  refine T.d_first_depths.ok sc_first_depths (fun vs H Q E h => ?_) (fun f cdv A outer s H vs Q E hr h => ?_)
  · obtain ⟨o, a, b, c, s, rfl, _⟩ := h
    rfl
  · obtain ⟨o, a, b, c, s, rfl, ⟨bt, h1, h2⟩, hs, q⟩ := h
    refine ⟨_, (pss_cons (ps_set (i := 1) sc_first_depths.nd rfl (Or.inl rfl) (by exact (pe_op op_shlN pe_int (pe_ix (r := rIxT K) ix_tup (pv 0) pe_int (fun _ _ => rfl)))))
  (pss_one (ps_ret (pe_tup (pa_cons (pv 1) (pa_cons (pv 1) (pa_cons (pv 1) pa_nil))))))), ?_⟩
    simp only [tSeq, tIfS, tOr, tAnd, tB, tTest, tCB, tCons, tVar, tC, tNil, tNot, tNotV, tRet, tRetN, tNext, tBreak, tOrV, tAndV, tOp, tUn, rEq, rNe, tChain, rI0, rI, rU, tAsg, gName, tDrop, tAug, ipI, tIf, tCall, tCallS, tLst, tTup, tBM, tBM0, rAppend, rExtend, rPop, rReverse, tyV, rIxL, rIxT, rIxS, rIsB, rNotB, L2.start, List.map_cons, List.map_nil, List.length_cons, List.length_nil, List.replicate, List.cons_append, List.nil_append, List.append_nil, List.getElem?_cons_zero, List.getElem?_cons_succ, List.set_cons_zero, List.set_cons_succ, Nat.reduceAdd, Nat.reduceSub, Option.some.injEq, exists_eq_left', exists_eq_left, V.int.injEq, V.bl.injEq, V.str.injEq, V.ref.injEq, List.cons.injEq, and_true, true_and, and_assoc, reduceCtorEq, false_and, exists_false, or_false, false_or, exists_and_left, exists_const, scal, Int.reduceLT, Int.reduceLE, Int.reduceSub, Int.reduceAdd, Int.reduceNeg, if_true, if_false]
    refine ⟨_, SqT.of h1, _, rfl, bitsOf s, rfl, cshl (x := 1) (k := 1) (by decide) (by omega) (by unfold bitsOf; omega), by decide, fun p hp => ?_⟩
    refine q p _ (FK.same_new hp) hp ?_
    rw [upd_same, show (1 : Int) * 2 ^ bitsOf s = TT s by rw [Int.one_mul, TT_pow]]
    rfl
def Sm (x : Int) : Prop := ∃ k, k ≤ 9000 ∧ 0 < k ∧ x.natAbs < 2 ^ k
theorem mulOk {x y : Int} (hx : Sm x) (hy : Sm y) : CMulW x y := by
  obtain ⟨j, j1, j0, hj⟩ := hx
  obtain ⟨k, k1, k0, hk⟩ := hy
  exact wide_mul hj hk j0 k0 (by omega)
theorem bend_small {s n : Nat} (hs : s < 8) (hn : okOrd n) : Sm (bendF n (bitsOf s)) := by
  have h := bend_abs hs hn
  refine ⟨256 * (s + 1) + 32 + 2, by omega, by omega, ?_⟩
  have e : 2 ^ (256 * (s + 1) + 32 + 2) = 2 ^ (256 * (s + 1) + 32) * 4 := Nat.pow_add 2 _ 2
  have p : 0 < 2 ^ (256 * (s + 1) + 32) := Nat.pow_pos (by decide)
  rw [e]
  show (bendF n (256 * (s + 1) + 32)).natAbs < _
  generalize 2 ^ (256 * (s + 1) + 32) = t at h p ⊢
  omega
theorem stepI_at {B : Fin 3 → Fin 3 → Int} {t : Int} {i : Fin 3} {D : Fin 3 → Int} : v3i (Cox.stepI B t i D) = [.int (Cox.stepI B t i D 0), .int (Cox.stepI B t i D 1), .int (Cox.stepI B t i D 2)] := rfl
theorem step_self {B : Fin 3 → Fin 3 → Int} {t : Int} {i : Fin 3} {D : Fin 3 → Int} : -D i = Cox.stepI B t i D i := by
  unfold Cox.stepI
  rw [if_pos rfl]
theorem step_oth {B : Fin 3 → Fin 3 → Int} {t : Int} {i j : Fin 3} {D : Fin 3 → Int} (h : j ≠ i) : D j + B i j * D i / t = Cox.stepI B t i D j := by
  unfold Cox.stepI
  rw [if_neg h]
theorem tri_at (x y z : Int) : tri 0 x y z 0 1 = x ∧ tri 0 x y z 0 2 = z ∧ tri 0 x y z 1 0 = x ∧ tri 0 x y z 1 2 = y ∧ tri 0 x y z 2 0 = z ∧ tri 0 x y z 2 1 = y := ⟨rfl, rfl, rfl, rfl, rfl, rfl⟩
theorem step_0 (x y z t : Int) (D : Fin 3 → Int) : ([.int (-D 0), .int (D 1 + x * D 0 / t), .int (D 2 + z * D 0 / t)] : List V) = v3i (Cox.stepI (tri 0 x y z) t 0 D) := by
  unfold v3i
  rw [← step_self, ← step_oth (i := 0) (j := 1) (by decide), ← step_oth (i := 0) (j := 2) (by decide), (tri_at x y z).1, (tri_at x y z).2.1]
theorem step_1 (x y z t : Int) (D : Fin 3 → Int) : ([.int (D 0 + x * D 1 / t), .int (-D 1), .int (D 2 + y * D 1 / t)] : List V) = v3i (Cox.stepI (tri 0 x y z) t 1 D) := by
  unfold v3i
  rw [← step_self, ← step_oth (i := 1) (j := 0) (by decide), ← step_oth (i := 1) (j := 2) (by decide), (tri_at x y z).2.2.1, (tri_at x y z).2.2.2.1]
theorem step_2 (x y z t : Int) (D : Fin 3 → Int) : ([.int (D 0 + z * D 2 / t), .int (D 1 + y * D 2 / t), .int (-D 2)] : List V) = v3i (Cox.stepI (tri 0 x y z) t 2 D) := by
  unfold v3i
  rw [← step_self, ← step_oth (i := 2) (j := 0) (by decide), ← step_oth (i := 2) (j := 1) (by decide), (tri_at x y z).2.2.2.2.1, (tri_at x y z).2.2.2.2.2]
theorem iteT' {c : Prop} [Decidable c] {p q : Prop} (h : c) (hp : p) : if c then p else q := by rw [if_pos h]; exact hp
theorem iteF' {c : Prop} [Decidable c] {p q : Prop} (h : ¬ c) (hq : q) : if c then p else q := by rw [if_neg h]; exact hq
def spBehind (K : PySem.W.Frag) : Sp := fun vs H Q _ => ∃ (sc dp : Addr) (a b c s : Nat) (D : Fin 3 → Int) (i : Fin 3), vs = [.ref sc, .ref dp, .str (wS [i])] ∧ ScAt K H sc a b c (bitsOf s) ∧ s < 8 ∧ okOrd a ∧ okOrd b ∧ okOrd c ∧
  H dp = some (.tup (v3i D)) ∧ (∀ j, Sm (D j)) ∧ ∀ p H', Same H H' → H p = none → H' p = some (.tup (v3i (stepI (bendT a b c (bitsOf s)) (TT s) i D))) → Q (.ref p) H'
theorem ok_depths_behind (T : Txt K mg cx) : FK.Has P w K mg base CX0 1 "depths_behind" ["scale", "depths", "letter"] (spBehind K) := by
  refine T.d_depths_behind.ok sc_depths_behind (fun vs H Q E h => ?_) (fun f cdv A outer s H vs Q E hr h => ?_)
  · obtain ⟨sc, dp, a, b, c, s, D, i, rfl, _⟩ := h
    rfl
  · obtain ⟨sc, dp, a, b, c, s, D, i, rfl, ⟨bt, h1, h2⟩, hs, ha, hb, hc, hD, hl, q⟩ := h
    refine ⟨_, (pss_cons (ps_asg (pv 0) (pg_tup rfl (pgs_cons (pg_name (i := 3) sc_depths_behind.nd rfl (Or.inl rfl)) (pgs_cons (pg_tup rfl (pgs_cons (pg_name (i := 7) sc_depths_behind.nd rfl (Or.inl rfl)) (pgs_cons (pg_name (i := 8) sc_depths_behind.nd rfl (Or.inl rfl)) (pgs_cons (pg_name (i := 9) sc_depths_behind.nd rfl (Or.inl rfl)) pgs_nil)))) pgs_nil))))
  (pss_cons (ps_asg (pv 1) (pg_tup rfl (pgs_cons (pg_name (i := 4) sc_depths_behind.nd rfl (Or.inl rfl)) (pgs_cons (pg_name (i := 5) sc_depths_behind.nd rfl (Or.inl rfl)) (pgs_cons (pg_name (i := 6) sc_depths_behind.nd rfl (Or.inl rfl)) pgs_nil)))))
  (pss_cons (ps_if (pt_cmpR op_eq (pv 2) pe_str (nomark _)) (pss_one (ps_ret (pe_tup (pa_cons (pe_un un_neg (pv 4)) (pa_cons (pe_op op_add (pv 5) (pe_op op_shrN (pe_op op_mulW (pv 7) (pv 4)) (pv 3))) (pa_cons (pe_op op_add (pv 6) (pe_op op_shrN (pe_op op_mulW (pv 9) (pv 4)) (pv 3))) pa_nil)))))) pss_nil)
  (pss_cons (ps_if (pt_cmpR op_eq (pv 2) pe_str (nomark _)) (pss_one (ps_ret (pe_tup (pa_cons (pe_op op_add (pv 4) (pe_op op_shrN (pe_op op_mulW (pv 7) (pv 5)) (pv 3))) (pa_cons (pe_un un_neg (pv 5)) (pa_cons (pe_op op_add (pv 6) (pe_op op_shrN (pe_op op_mulW (pv 8) (pv 5)) (pv 3))) pa_nil)))))) pss_nil)
  (pss_one (ps_ret (pe_tup (pa_cons (pe_op op_add (pv 4) (pe_op op_shrN (pe_op op_mulW (pv 9) (pv 6)) (pv 3))) (pa_cons (pe_op op_add (pv 5) (pe_op op_shrN (pe_op op_mulW (pv 8) (pv 6)) (pv 3))) (pa_cons (pe_un un_neg (pv 6)) pa_nil)))))))))), ?_⟩
    simp only [tSeq, tIfS, tOr, tAnd, tB, tTest, tCB, tCons, tVar, tC, tNil, tNot, tNotV, tRet, tRetN, tNext, tBreak, tOrV, tAndV, tOp, tUn, rEq, rNe, tChain, rI0, rI, rU, tAsg, gName, tDrop, tAug, ipI, tIf, tCall, tCallS, tLst, tTup, tBM, tBM0, rAppend, rExtend, rPop, rReverse, tyV, rIxL, rIxT, rIxS, rIsB, rNotB, L2.start, List.map_cons, List.map_nil, List.length_cons, List.length_nil, List.replicate, List.cons_append, List.nil_append, List.append_nil, List.getElem?_cons_zero, List.getElem?_cons_succ, List.set_cons_zero, List.set_cons_succ, Nat.reduceAdd, Nat.reduceSub, Option.some.injEq, exists_eq_left', exists_eq_left, V.int.injEq, V.bl.injEq, V.str.injEq, V.ref.injEq, List.cons.injEq, and_true, true_and, and_assoc, reduceCtorEq, false_and, exists_false, or_false, false_or, exists_and_left, exists_const, scal, Int.reduceLT, Int.reduceLE, Int.reduceSub, Int.reduceAdd, Int.reduceNeg, if_true, if_false]
    refine ⟨sc, _, rfl, SqT.of h1, rfl, _, _, rfl, _, _, rfl, bt, _, rfl, SqT.of h2, rfl, _, _, rfl, _, _, rfl, _, _, rfl, rfl, rfl, ?_⟩
    simp only [tSeq, tIfS, tOr, tAnd, tB, tTest, tCB, tCons, tVar, tC, tNil, tNot, tNotV, tRet, tRetN, tNext, tBreak, tOrV, tAndV, tOp, tUn, rEq, rNe, tChain, rI0, rI, rU, tAsg, gName, tDrop, tAug, ipI, tIf, tCall, tCallS, tLst, tTup, tBM, tBM0, rAppend, rExtend, rPop, rReverse, tyV, rIxL, rIxT, rIxS, rIsB, rNotB, L2.start, List.map_cons, List.map_nil, List.length_cons, List.length_nil, List.replicate, List.cons_append, List.nil_append, List.append_nil, List.getElem?_cons_zero, List.getElem?_cons_succ, List.set_cons_zero, List.set_cons_succ, Nat.reduceAdd, Nat.reduceSub, Option.some.injEq, exists_eq_left', exists_eq_left, V.int.injEq, V.bl.injEq, V.str.injEq, V.ref.injEq, List.cons.injEq, and_true, true_and, and_assoc, reduceCtorEq, false_and, exists_false, or_false, false_or, exists_and_left, exists_const, scal, Int.reduceLT, Int.reduceLE, Int.reduceSub, Int.reduceAdd, Int.reduceNeg, if_true, if_false]
    refine ⟨dp, _, rfl, SqT.of hD, rfl, _, _, rfl, _, _, rfl, _, _, rfl, rfl, ?_⟩
    simp only [tSeq, tIfS, tOr, tAnd, tB, tTest, tCB, tCons, tVar, tC, tNil, tNot, tNotV, tRet, tRetN, tNext, tBreak, tOrV, tAndV, tOp, tUn, rEq, rNe, tChain, rI0, rI, rU, tAsg, gName, tDrop, tAug, ipI, tIf, tCall, tCallS, tLst, tTup, tBM, tBM0, rAppend, rExtend, rPop, rReverse, tyV, rIxL, rIxT, rIxS, rIsB, rNotB, L2.start, List.map_cons, List.map_nil, List.length_cons, List.length_nil, List.replicate, List.cons_append, List.nil_append, List.append_nil, List.getElem?_cons_zero, List.getElem?_cons_succ, List.set_cons_zero, List.set_cons_succ, Nat.reduceAdd, Nat.reduceSub, Option.some.injEq, exists_eq_left', exists_eq_left, V.int.injEq, V.bl.injEq, V.str.injEq, V.ref.injEq, List.cons.injEq, and_true, true_and, and_assoc, reduceCtorEq, false_and, exists_false, or_false, false_or, exists_and_left, exists_const, scal, Int.reduceLT, Int.reduceLE, Int.reduceSub, Int.reduceAdd, Int.reduceNeg, if_true, if_false]
    have sa := bend_small hs ha
    have sb := bend_small hs hb
    have sc' := bend_small hs hc
    rcases let3 i with ⟨e, rfl⟩ | ⟨e, rfl⟩ | ⟨e, rfl⟩
    · rw [e]
      refine iteT' (by decide +kernel) ⟨mulOk sa (hl 0), bitsOf s, rfl, mulOk sc' (hl 0), bitsOf s, rfl, by decide, fun p hp => q p _ (FK.same_new hp) hp ?_⟩
      rw [upd_same, TT_pow, step_0 _ (bendF b (bitsOf s)) _]
      rfl
    · rw [e]
      refine iteF' (by decide +kernel) (iteT' (by decide +kernel) ⟨mulOk sa (hl 1), bitsOf s, rfl, mulOk sb (hl 1), bitsOf s, rfl, by decide, fun p hp => q p _ (FK.same_new hp) hp ?_⟩)
      rw [upd_same, TT_pow, step_1 _ _ (bendF c (bitsOf s))]
      rfl
    · rw [e]
      refine iteF' (by decide +kernel) (iteF' (by decide +kernel) ⟨mulOk sc' (hl 2), bitsOf s, rfl, mulOk sb (hl 2), bitsOf s, rfl, by decide, fun p hp => q p _ (FK.same_new hp) hp ?_⟩)
      rw [upd_same, TT_pow, step_2 (bendF a (bitsOf s)) _ _]
      rfl

theorem depI_small {a b c s : Nat} (hs : s < 8) (ha : okOrd a) (hb : okOrd b) (hc : okOrd c) {w : W} (hw : w.length ≤ 2000) (j : Fin 3) : Sm (Cox.depI (bendT a b c (bitsOf s)) (TT s) w j) := by
  have h := dep_abs (B := bendT a b c (bitsOf s)) (T := 2 ^ bitsOf s) (Nat.pow_pos (by decide)) (tri_abs (bend_abs hs ha) (bend_abs hs hb) (bend_abs hs hc)) w j
  refine ⟨bitsOf s + 2 * w.length + 1, by unfold bitsOf; omega, by omega, ?_⟩
  have e : 2 ^ (bitsOf s + 2 * w.length + 1) = 2 * (2 ^ bitsOf s * 4 ^ w.length) := by
    rw [Nat.pow_succ, Nat.pow_add, Nat.pow_mul]
    rw [Nat.mul_comm]
  have p : 0 < 2 ^ bitsOf s * 4 ^ w.length := Nat.mul_pos (Nat.pow_pos (by decide)) (Nat.pow_pos (by decide))
  rw [e]
  show (Cox.depI (bendT a b c (bitsOf s)) ((2 ^ bitsOf s : Nat) : Int) w j).natAbs < _
  generalize 2 ^ bitsOf s * 4 ^ w.length = t at h p ⊢
  omega
theorem drop_rev {w : W} {i : Nat} {x : Fin 3} (h : w.reverse[i]? = some x) : w.drop (w.length - (i + 1)) = x :: w.drop (w.length - i) := by
  have hi : i < w.length := by
    have := (List.getElem?_eq_some_iff.mp h).1
    rwa [List.length_reverse] at this
  rw [List.getElem?_reverse hi] at h
  have h2 : w.length - 1 - i < w.length := by omega
  rw [List.getElem?_eq_getElem h2] at h
  have e := List.drop_eq_getElem_cons h2
  rw [Option.some.inj h] at e
  rw [show w.length - (i + 1) = w.length - 1 - i by omega, e, show w.length - 1 - i + 1 = w.length - i by omega]
def spDepths (K : PySem.W.Frag) : Sp := fun vs H Q _ => ∃ (sc : Addr) (a b c s : Nat) (w : W), vs = [.ref sc, .str (wS w)] ∧ ScAt K H sc a b c (bitsOf s) ∧ s < 8 ∧ okOrd a ∧ okOrd b ∧ okOrd c ∧ w.length ≤ 2000 ∧
  ∀ p H', Same H H' → H p = none → H' p = some (.tup (v3i (Cox.depI (bendT a b c (bitsOf s)) (TT s) w))) → Q (.ref p) H'
theorem ok_depths_of (T : Txt K mg cx) : FK.Has P w K mg base CX0 2 "depths_of" ["scale", "word"] (spDepths K) := by
  have H_first_depths := ok_first_depths (P := P) (w := w) (base := base) T
  have H_depths_behind := ok_depths_behind (P := P) (w := w) (base := base) T
  refine T.d_depths_of.ok sc_depths_of (fun vs H Q E h => ?_) (fun f cdv A outer s H vs Q E hr h => ?_)
  · obtain ⟨sc, a, b, c, s, w, rfl, _⟩ := h
    rfl
  · obtain ⟨sc, a, b, c, s, w, rfl, hsc, hs, ha, hb, hc, hw, q⟩ := h
    refine ⟨_, (pss_cons (ps_set (i := 2) sc_depths_of.nd rfl (Or.inl rfl) (by exact (FK.pe_h (E := E0) H_first_depths (hr.mono (by decide)) pass0 (pa_cons (pv 0) pa_nil))))
  (pss_cons (ps_for PassesOwn.never rfl (pi_str (FK.pe_revS (pv 1))) (pg_name (i := 3) sc_depths_of.nd rfl (Or.inl rfl))
  (pss_one (ps_set (i := 2) sc_depths_of.nd rfl (Or.inl rfl) (by exact (FK.pe_h (E := E0) H_depths_behind (hr.mono (by decide)) pass0 (pa_cons (pv 0) (pa_cons (pv 2) (pa_cons (pv 3) pa_nil))))))))
  (pss_one (ps_ret (pv 2))))), ?_⟩
    simp only [tSeq, tIfS, tOr, tAnd, tB, tTest, tCB, tCons, tVar, tC, tNil, tNot, tNotV, tRet, tRetN, tNext, tBreak, tOrV, tAndV, tOp, tUn, rEq, rNe, tChain, rI0, rI, rU, tAsg, gName, tDrop, tAug, ipI, tIf, tCall, tCallS, tLst, tTup, tBM, tBM0, rAppend, rExtend, rPop, rReverse, tyV, rIxL, rIxT, rIxS, rIsB, rNotB, L2.start, List.map_cons, List.map_nil, List.length_cons, List.length_nil, List.replicate, List.cons_append, List.nil_append, List.append_nil, List.getElem?_cons_zero, List.getElem?_cons_succ, List.set_cons_zero, List.set_cons_succ, Nat.reduceAdd, Nat.reduceSub, Option.some.injEq, exists_eq_left', exists_eq_left, V.int.injEq, V.bl.injEq, V.str.injEq, V.ref.injEq, List.cons.injEq, and_true, true_and, and_assoc, reduceCtorEq, false_and, exists_false, or_false, false_or, exists_and_left, exists_const, scal, Int.reduceLT, Int.reduceLE, Int.reduceSub, Int.reduceAdd, Int.reduceNeg, if_true, if_false]
    refine ⟨sc, a, b, c, s, rfl, hsc, hs, fun p0 H0 s0 hp0 e0 => ?_⟩
    simp only [tSeq, tIfS, tOr, tAnd, tB, tTest, tCB, tCons, tVar, tC, tNil, tNot, tNotV, tRet, tRetN, tNext, tBreak, tOrV, tAndV, tOp, tUn, rEq, rNe, tChain, rI0, rI, rU, tAsg, gName, tDrop, tAug, ipI, tIf, tCall, tCallS, tLst, tTup, tBM, tBM0, rAppend, rExtend, rPop, rReverse, tyV, rIxL, rIxT, rIxS, rIsB, rNotB, L2.start, List.map_cons, List.map_nil, List.length_cons, List.length_nil, List.replicate, List.cons_append, List.nil_append, List.append_nil, List.getElem?_cons_zero, List.getElem?_cons_succ, List.set_cons_zero, List.set_cons_succ, Nat.reduceAdd, Nat.reduceSub, Option.some.injEq, exists_eq_left', exists_eq_left, V.int.injEq, V.bl.injEq, V.str.injEq, V.ref.injEq, List.cons.injEq, and_true, true_and, and_assoc, reduceCtorEq, false_and, exists_false, or_false, false_or, exists_and_left, exists_const, scal, Int.reduceLT, Int.reduceLE, Int.reduceSub, Int.reduceAdd, Int.reduceNeg, if_true, if_false]
    have ez : (wS w).length ≤ sizeLine := by rw [wS_len]; exact Nat.le_trans hw (by decide)
    refine FK.rd_for (J := Its (wS w.reverse)) (H1 := H0) (fun R r => ⟨_, rfl, wS w, rfl, ez, _, rfl, by rw [wS_rev]; exact r⟩) walk_str
      (fun i σ H' => ∃ (p : Addr) (v3 : Option V), σ = [some (.ref sc), some (.str (wS w)), some (.ref p), v3] ∧ Same H H' ∧ H p = none ∧ H' p = some (.tup (v3i (Cox.depI (bendT a b c (bitsOf s)) (TT s) (w.drop (w.length - i))))))
      ⟨p0, none, rfl, s0, hp0, by rw [Nat.sub_zero, List.drop_length]; exact e0⟩ (fun _ _ _ _ _ => trivial) ?_ ?_
    · rintro i x σ H1 H2 hi ⟨p, v3, rfl, s1, hp, e1⟩ ⟨rfl, ch, hc1, rfl⟩
      obtain ⟨l, hl, el⟩ := wS_at hc1
      rw [el]
      have hi2 : i < w.length := by
        have := hi
        rw [show (wS w.reverse).cps.size = w.length from by rw [← List.length_reverse (as := w)]; exact wS_len _] at this
        exact this
      have ed := drop_rev hl
      refine ⟨_, rfl, _, rfl, _, rfl, sc, p, a, b, c, s, _, l, rfl, hsc.same s1, hs, ha, hb, hc, e1, fun j => depI_small hs ha hb hc (by rw [List.length_drop]; omega) j, fun p2 H3 s3 hp2 e3 => ?_⟩
      refine ⟨p2, some (.str (wS [l])), rfl, s1.trans s3, back s1 hp2, ?_⟩
      rw [e3, ed]
      rfl
    · rintro σ H1 ⟨p, v3, rfl, s1, hp, e1⟩
      have e2 : (wS w.reverse).cps.size = w.length := by rw [← List.length_reverse (as := w)]; exact wS_len _
      rw [e2, Nat.sub_self, List.drop_zero] at e1
      simp only [tSeq, tIfS, tOr, tAnd, tB, tTest, tCB, tCons, tVar, tC, tNil, tNot, tNotV, tRet, tRetN, tNext, tBreak, tOrV, tAndV, tOp, tUn, rEq, rNe, tChain, rI0, rI, rU, tAsg, gName, tDrop, tAug, ipI, tIf, tCall, tCallS, tLst, tTup, tBM, tBM0, rAppend, rExtend, rPop, rReverse, tyV, rIxL, rIxT, rIxS, rIsB, rNotB, L2.start, List.map_cons, List.map_nil, List.length_cons, List.length_nil, List.replicate, List.cons_append, List.nil_append, List.append_nil, List.getElem?_cons_zero, List.getElem?_cons_succ, List.set_cons_zero, List.set_cons_succ, Nat.reduceAdd, Nat.reduceSub, Option.some.injEq, exists_eq_left', exists_eq_left, V.int.injEq, V.bl.injEq, V.str.injEq, V.ref.injEq, List.cons.injEq, and_true, true_and, and_assoc, reduceCtorEq, false_and, exists_false, or_false, false_or, exists_and_left, exists_const, scal, Int.reduceLT, Int.reduceLE, Int.reduceSub, Int.reduceAdd, Int.reduceNeg, if_true, if_false]
      exact q p H1 s1 hp e1
def spFirstFar (K : PySem.W.Frag) : Sp := fun vs H Q _ => ∃ (dp : Addr) (D : Fin 3 → Int), vs = [.ref dp] ∧ H dp = some (.tup (v3i D)) ∧
  ∀ H', Same H H' → Q (.str (match Cox.firstNeg D with | none => "" | some i => wS [i])) H'
theorem ok_first_far (T : Txt K mg cx) : FK.Has P w K mg base CX0 1 "first_far" ["depths"] (spFirstFar K) := by
  refine T.d_first_far.ok sc_first_far (fun vs H Q E h => ?_) (fun f cdv A outer s H vs Q E hr h => ?_)
  · obtain ⟨dp, D, rfl, _⟩ := h
    rfl
  · obtain ⟨dp, D, rfl, hD, q⟩ := h
    refine ⟨_, (pss_cons (ps_asg (pv 0) (pg_tup rfl (pgs_cons (pg_name (i := 1) sc_first_far.nd rfl (Or.inl rfl)) (pgs_cons (pg_name (i := 2) sc_first_far.nd rfl (Or.inl rfl)) (pgs_cons (pg_name (i := 3) sc_first_far.nd rfl (Or.inl rfl)) pgs_nil)))))
  (pss_cons (ps_if (pt_cmpR op_lt (pv 1) pe_int (nomark _)) (pss_one (ps_ret pe_str)) pss_nil)
  (pss_cons (ps_if (pt_cmpR op_lt (pv 2) pe_int (nomark _)) (pss_one (ps_ret pe_str)) pss_nil)
  (pss_one (ps_ret (pe_ifExp (pt_cmpR op_lt (pv 3) pe_int (nomark _)) pe_str pe_str)))))), ?_⟩
    simp only [tSeq, tIfS, tOr, tAnd, tB, tTest, tCB, tCons, tVar, tC, tNil, tNot, tNotV, tRet, tRetN, tNext, tBreak, tOrV, tAndV, tOp, tUn, rEq, rNe, tChain, rI0, rI, rU, tAsg, gName, tDrop, tAug, ipI, tIf, tCall, tCallS, tLst, tTup, tBM, tBM0, rAppend, rExtend, rPop, rReverse, tyV, rIxL, rIxT, rIxS, rIsB, rNotB, L2.start, List.map_cons, List.map_nil, List.length_cons, List.length_nil, List.replicate, List.cons_append, List.nil_append, List.append_nil, List.getElem?_cons_zero, List.getElem?_cons_succ, List.set_cons_zero, List.set_cons_succ, Nat.reduceAdd, Nat.reduceSub, Option.some.injEq, exists_eq_left', exists_eq_left, V.int.injEq, V.bl.injEq, V.str.injEq, V.ref.injEq, List.cons.injEq, and_true, true_and, and_assoc, reduceCtorEq, false_and, exists_false, or_false, false_or, exists_and_left, exists_const, scal, Int.reduceLT, Int.reduceLE, Int.reduceSub, Int.reduceAdd, Int.reduceNeg, if_true, if_false]
    refine ⟨dp, _, rfl, SqT.of hD, rfl, _, _, rfl, _, _, rfl, _, _, rfl, rfl, ?_⟩
    simp only [tSeq, tIfS, tOr, tAnd, tB, tTest, tCB, tCons, tVar, tC, tNil, tNot, tNotV, tRet, tRetN, tNext, tBreak, tOrV, tAndV, tOp, tUn, rEq, rNe, tChain, rI0, rI, rU, tAsg, gName, tDrop, tAug, ipI, tIf, tCall, tCallS, tLst, tTup, tBM, tBM0, rAppend, rExtend, rPop, rReverse, tyV, rIxL, rIxT, rIxS, rIsB, rNotB, L2.start, List.map_cons, List.map_nil, List.length_cons, List.length_nil, List.replicate, List.cons_append, List.nil_append, List.append_nil, List.getElem?_cons_zero, List.getElem?_cons_succ, List.set_cons_zero, List.set_cons_succ, Nat.reduceAdd, Nat.reduceSub, Option.some.injEq, exists_eq_left', exists_eq_left, V.int.injEq, V.bl.injEq, V.str.injEq, V.ref.injEq, List.cons.injEq, and_true, true_and, and_assoc, reduceCtorEq, false_and, exists_false, or_false, false_or, exists_and_left, exists_const, scal, Int.reduceLT, Int.reduceLE, Int.reduceSub, Int.reduceAdd, Int.reduceNeg, if_true, if_false]
    have q2 := q H (Same.refl H)
    unfold Cox.firstNeg at q2
    by_cases c0 : D 0 < 0
    · rw [if_pos c0] at q2
      exact iteT' (decide_eq_true c0) q2
    · rw [if_neg c0] at q2
      refine iteF' (fun z => c0 (of_decide_eq_true z)) ?_
      by_cases c1 : D 1 < 0
      · rw [if_pos c1] at q2
        exact iteT' (decide_eq_true c1) q2
      · rw [if_neg c1] at q2
        refine iteF' (fun z => c1 (of_decide_eq_true z)) ?_
        by_cases c2 : D 2 < 0
        · rw [if_pos c2] at q2
          exact iteT' (decide_eq_true c2) q2
        · rw [if_neg c2] at q2
          exact iteF' (fun z => c2 (of_decide_eq_true z)) q2
theorem negs_take (D : Fin 3 → Int) (j : Nat) (i : Fin 3) (h : ([0, 1, 2] : List (Fin 3))[j]? = some i) : (([0, 1, 2] : List (Fin 3)).take (j + 1)).filter (fun i => decide (D i < 0)) = (([0, 1, 2] : List (Fin 3)).take j).filter (fun i => decide (D i < 0)) ++ (if decide (D i < 0) = true then [i] else []) := by
  rw [List.take_add_one, h, List.filter_append]
  simp
  split <;> simp_all
theorem join_wS (w : W) : Txt.join "" (w.map fun i => wS [i]) = wS w := by
  have := join_signs (w.map fun i => 48 + i.1)
  rw [List.map_map] at this
  exact this
theorem sum_wS (w : W) : ((w.map fun i => wS [i]).map fun x => x.length).sum = w.length := by
  induction w with
  | nil => rfl
  | cons a w ih =>
    rw [List.map_cons, List.map_cons, List.sum_cons, ih, wS_len]
    show 1 + w.length = w.length + 1
    omega
def negs (D : Fin 3 → Int) : W := [0, 1, 2].filter fun i => decide (D i < 0)
def spFarLetters (K : PySem.W.Frag) : Sp := fun vs H Q _ => ∃ (dp : Addr) (D : Fin 3 → Int), vs = [.ref dp] ∧ H dp = some (.tup (v3i D)) ∧
  ∀ H', Same H H' → Q (.str (wS (negs D))) H'
theorem ok_far_letters (T : Txt K mg cx) : FK.Has P w K mg base CX0 1 "far_letters" ["depths"] (spFarLetters K) := by
  refine T.d_far_letters.ok sc_far_letters (fun vs H Q E h => ?_) (fun f cdv A outer s H vs Q E hr h => ?_)
  · obtain ⟨dp, D, rfl, _⟩ := h
    rfl
  · obtain ⟨dp, D, rfl, hD, q⟩ := h
    refine ⟨_, (pss_one (ps_ret (pe_join pe_str (pe_lc (own := [("letter", 1), ("depth", 2)]) (g := gTup _ 2 (gCons (gName 1) (gCons (gName 2) gNil)))  rfl sc_far_letters.nd (FK.pi_zipST (by rfl) T.n_zip (pa_cons (pe_glob (v := .str "012") rfl T.c_LETTERS ⟨_, rfl⟩) (pa_cons (pv 0) pa_nil))) (blkOk_by (own := [("letter", 1), ("depth", 2)]) (N := ["depths", "letter", "depth"]) (sc := defScope s_far_letters) (by decide +kernel)) (fun _ _ _ _ _ => (pg_tup rfl (pgs_cons (pg_name (i := 1) sc_far_letters.nd rfl (Or.inl rfl)) (pgs_cons (pg_name (i := 2) sc_far_letters.nd rfl (Or.inl rfl)) pgs_nil)))) (fun _ _ _ _ _ => (pts_one (pt_cmpR op_lt (pv 2) pe_int (nomark _)))) (fun _ _ _ _ _ => (pv 1)))))), ?_⟩
    simp only [tSeq, tIfS, tOr, tAnd, tB, tTest, tCB, tCons, tVar, tC, tNil, tNot, tNotV, tRet, tRetN, tNext, tBreak, tOrV, tAndV, tOp, tUn, rEq, rNe, tChain, rI0, rI, rU, tAsg, gName, tDrop, tAug, ipI, tIf, tCall, tCallS, tLst, tTup, tBM, tBM0, rAppend, rExtend, rPop, rReverse, tyV, rIxL, rIxT, rIxS, rIsB, rNotB, L2.start, List.map_cons, List.map_nil, List.length_cons, List.length_nil, List.replicate, List.cons_append, List.nil_append, List.append_nil, List.getElem?_cons_zero, List.getElem?_cons_succ, List.set_cons_zero, List.set_cons_succ, Nat.reduceAdd, Nat.reduceSub, Option.some.injEq, exists_eq_left', exists_eq_left, V.int.injEq, V.bl.injEq, V.str.injEq, V.ref.injEq, List.cons.injEq, and_true, true_and, and_assoc, reduceCtorEq, false_and, exists_false, or_false, false_or, exists_and_left, exists_const, scal, Int.reduceLT, Int.reduceLE, Int.reduceSub, Int.reduceAdd, Int.reduceNeg, if_true, if_false]
    refine ⟨⟨_, rfl⟩, _, rfl, "012", dp, v3i D, rfl, SqT.of hD, fun Dl hDl => ?_⟩
    refine lc_it (FK.walk_zipST (K := K) (x := "012") (b := dp) (ys := v3i D) (show 3 = _ by decide +kernel)) (fun j H' => Same H H' ∧ H' Dl = some (.lst ((((([0, 1, 2] : List (Fin 3)).take j).filter (fun i => decide (D i < 0))).map fun i => wS [i]).map V.str)))
      ⟨FK.same_new hDl, upd_same⟩ (fun j H' _ z => FK.Same.tupS z.1 (SqT.of hD)) ?_ ?_
    · rintro j x H1 H2 hj ⟨s1, e1⟩ ⟨T', ch, y, rfl, hT, rfl, hc, hy⟩
      refine ⟨T', _, rfl, SqT.of upd_same, rfl, _, _, rfl, _, _, rfl, rfl, rfl, ?_⟩
      obtain ⟨i, hi, ei, rfl⟩ : ∃ i : Fin 3, ([0, 1, 2] : List (Fin 3))[j]? = some i ∧ (⟨#[ch]⟩ : Str) = wS [i] ∧ y = .int (D i) := by
        match j, hc, hy with
        | 0, hc, hy => cases hc; cases hy; exact ⟨0, rfl, rfl, rfl⟩
        | 1, hc, hy => cases hc; cases hy; exact ⟨1, rfl, rfl, rfl⟩
        | 2, hc, hy => cases hc; cases hy; exact ⟨2, rfl, rfl, rfl⟩
        | _ + 3, _, hy => simp [v3i] at hy
      have nt := negs_take D j i hi
      have s2 : Same H1 (upd H1 T' (.tup [.str ⟨#[ch]⟩, .int (D i)])) := FK.same_new hT
      rw [ei] at s2 ⊢
      have e2 := s2 _ _ e1
      simp only [tSeq, tIfS, tOr, tAnd, tB, tTest, tCB, tCons, tVar, tC, tNil, tNot, tNotV, tRet, tRetN, tNext, tBreak, tOrV, tAndV, tOp, tUn, rEq, rNe, tChain, rI0, rI, rU, tAsg, gName, tDrop, tAug, ipI, tIf, tCall, tCallS, tLst, tTup, tBM, tBM0, rAppend, rExtend, rPop, rReverse, tyV, rIxL, rIxT, rIxS, rIsB, rNotB, L2.start, List.map_cons, List.map_nil, List.length_cons, List.length_nil, List.replicate, List.cons_append, List.nil_append, List.append_nil, List.getElem?_cons_zero, List.getElem?_cons_succ, List.set_cons_zero, List.set_cons_succ, Nat.reduceAdd, Nat.reduceSub, Option.some.injEq, exists_eq_left', exists_eq_left, V.int.injEq, V.bl.injEq, V.str.injEq, V.ref.injEq, List.cons.injEq, and_true, true_and, and_assoc, reduceCtorEq, false_and, exists_false, or_false, false_or, exists_and_left, exists_const, scal, Int.reduceLT, Int.reduceLE, Int.reduceSub, Int.reduceAdd, Int.reduceNeg, if_true, if_false, wipe]
      by_cases c : D i < 0
      · rw [if_pos (decide_eq_true c)] at nt
        refine iteT' (decide_eq_true c) ⟨_, e2, ?_, ?_, ?_⟩
        · rw [List.length_map, List.length_map]
          exact Nat.lt_of_le_of_lt (Nat.le_trans (List.length_filter_le _ _) (by rw [List.length_take]; exact Nat.min_le_right _ _)) (by show 3 < 16777216; decide)
        · exact FK.same_at hDl (s1.trans s2)
        · rw [upd_same, nt, List.map_append, List.map_append]
          rfl
      · rw [if_neg (fun z => c (of_decide_eq_true z)), List.append_nil] at nt
        refine iteF' (fun z => c (of_decide_eq_true z)) ⟨s1.trans s2, ?_⟩
        rw [nt]
        exact e2
    · rintro H1 ⟨s1, e1⟩
      refine ⟨"", rfl, Dl, rfl, (negs D).map fun i => wS [i], .inl (SqL.of e1), ?_, ?_⟩
      · rw [sum_wS]
        have h1 : (negs D).length ≤ 3 := List.length_filter_le _ _
        have h2 : ((negs D).map fun i => wS [i]).length * ("" : Str).length = 0 := Nat.mul_zero _
        omega
      · rw [join_wS]
        exact q H1 s1

/-! the class Floor -/
def fldsF (o d : Addr) : List (Str × V) := putF "scales" (.ref d) (putF "orders" (.ref o) [])
theorem kso : ¬ (("orders" : Str) = "scales") := by decide +kernel
theorem fldsF_eq (o d : Addr) : fldsF o d = ([("orders", V.ref o), ("scales", V.ref d)] : List (Str × V)) := by
  show (if ("orders" : Str) = "scales" then [(("orders" : Str), V.ref d)] else (("orders" : Str), V.ref o) :: putF "scales" (V.ref d) []) = ([("orders", V.ref o), ("scales", V.ref d)] : List (Str × V))
  rw [if_neg kso]
  all_goals rfl
theorem fldsF_o (o d : Addr) : (fldsF o d).lookup ("orders" : Str) = some (.ref o) := by
  unfold fldsF
  rw [lookup_putF, if_neg kso, lookup_putF, if_pos rfl]
theorem fldsF_s (o d : Addr) : (fldsF o d).lookup ("scales" : Str) = some (.ref d) := by
  unfold fldsF
  rw [lookup_putF, if_pos rfl]
theorem fldsF_no (o d : Addr) {m : Str} (h1 : ¬ m = "scales") (h2 : ¬ m = "orders") : (fldsF o d).lookup m = none := by
  unfold fldsF
  rw [lookup_putF, if_neg h1, lookup_putF, if_neg h2]
  all_goals rfl
def kS (s : Nat) : Key := Sum.inl ((s + 1 : Nat) : Int)
/-- a Floor stands at f -/
structure FlAt (K : PySem.W.Frag) (C : Addr) (H : Hp) (f o d : Addr) (a b c : Nat) : Prop where
  ob : ∃ dx, H f = some (.ins C dx (fldsF o d))
  sq : SqT K H o [.int (a : Int), .int (b : Int), .int (c : Int)]
  ha : okOrd a
  hb : okOrd b
  hc : okOrd c
  dc : ∃ kvs : List (Key × V), H d = some (.dK kvs) ∧ (kvs.map (·.1)).Nodup ∧ ∀ kv ∈ kvs, ∃ s p, s < 8 ∧ kv = (kS s, .ref p) ∧ ScAt K H p a b c (bitsOf s)
theorem FlAt.same {C : Addr} {H H' : Hp} {f o d : Addr} {a b c : Nat} (F : FlAt K C H f o d a b c) (s : Same H H') : FlAt K C H' f o d a b c := by
  obtain ⟨⟨dx, h1⟩, h2, ha, hb, hc, kvs, h3, h4, h5⟩ := F
  exact ⟨⟨dx, s _ _ h1⟩, FK.Same.tupS s h2, ha, hb, hc, kvs, s _ _ h3, h4, fun kv m => by
    obtain ⟨s', p, a1, a2, a3⟩ := h5 kv m
    exact ⟨s', p, a1, a2, a3.same s⟩⟩
theorem nodup_small : ∀ (n : Nat) (l : List Nat), l.Nodup → (∀ x ∈ l, x < n) → l.length ≤ n
  | 0, l, _, h => by
    cases l with
    | nil => exact Nat.le_refl _
    | cons x l => exact absurd (h x List.mem_cons_self) (Nat.not_lt_zero _)
  | n + 1, l, hn, h => by
    have h2 := nodup_small n (l.erase n) (hn.erase n) fun x hx => by
      have h3 := h x (List.mem_of_mem_erase hx)
      have h4 : x ≠ n := fun z => by
        rw [z] at hx
        exact (List.Nodup.not_mem_erase hn) hx
      omega
    have := List.length_erase (a := n) (l := l)
    split at this
    · omega
    · omega
theorem kvs_small {H : Hp} {a b c : Nat} {kvs : List (Key × V)} (hn : (kvs.map (·.1)).Nodup) (h : ∀ kv ∈ kvs, ∃ s p, s < 8 ∧ kv = (kS s, .ref p) ∧ ScAt K H p a b c (bitsOf s)) : kvs.length ≤ 8 := by
  have go : ∀ kvs : List (Key × V), (∀ kv ∈ kvs, ∃ s p, s < 8 ∧ kv = (kS s, .ref p) ∧ ScAt K H p a b c (bitsOf s)) → ∃ l : List Nat, (∀ x ∈ l, x < 8) ∧ kvs.map (·.1) = l.map kS := by
    intro kvs
    induction kvs with
    | nil => exact fun _ => ⟨[], (fun _ h => nomatch h), rfl⟩
    | cons kv kvs ih =>
      intro h
      obtain ⟨l, l1, l2⟩ := ih fun x hx => h x (List.mem_cons_of_mem _ hx)
      obtain ⟨s, p, h1, h2, _⟩ := h kv List.mem_cons_self
      refine ⟨s :: l, fun x hx => ?_, by rw [List.map_cons, List.map_cons, l2, h2]⟩
      rcases List.mem_cons.mp hx with rfl | hx
      · exact h1
      · exact l1 x hx
  obtain ⟨l, l1, l2⟩ := go kvs h
  have e : kvs.length = l.length := by rw [← List.length_map (f := (·.1)) (as := kvs), l2, List.length_map]
  rw [e]
  rw [l2] at hn
  refine nodup_small 8 l ?_ l1
  unfold List.Nodup at hn ⊢
  exact (List.pairwise_map.mp hn).imp fun h z => h (by rw [z])
theorem ScAt.upd {H : Hp} {p d : Addr} {a b c bits : Nat} {kvs : List (Key × V)} {u : HO} (h : ScAt K H p a b c bits) (hd : H d = some (.dK kvs)) : ScAt K (upd H d u) p a b c bits := by
  obtain ⟨bt, h1, h2⟩ := h
  exact ⟨bt, by rw [upd_ne (fun z => by rw [z, hd] at h1; cases h1)]; exact h1, by rw [upd_ne (fun z => by rw [z, hd] at h2; cases h2)]; exact h2⟩
theorem SqT.upd {H : Hp} {o d : Addr} {xs : List V} {kvs : List (Key × V)} {u : HO} (h : SqT K H o xs) (hd : H d = some (.dK kvs)) : SqT K (upd H d u) o xs := by
  rcases h with (h | ⟨ob, h⟩) | h
  · exact .inl (.inl (by rw [upd_ne (fun z => by rw [z, hd] at h; cases h)]; exact h))
  · exact .inl (.inr ⟨ob, by rw [upd_ne (fun z => by rw [z, hd] at h; cases h)]; exact h⟩)
  · exact .inr h
theorem valV_mem {κ : Type} [DecidableEq κ] {kvs : List (κ × V)} {k : κ} {v : V} (h : valV kvs k = some v) : (k, v) ∈ kvs := by
  unfold valV at h
  cases e : kvs.find? (fun kv => decide (kv.1 = k)) with
  | none => rw [e] at h; cases h
  | some kv =>
    rw [e] at h
    have h1 := List.mem_of_find?_eq_some e
    have h2 : kv.1 = k := of_decide_eq_true (p := kv.1 = k) (List.find?_some (p := fun kv : κ × V => decide (kv.1 = k)) e)
    obtain ⟨k', v'⟩ := kv
    cases h
    cases h2
    exact h1
def spFloorInit (C : Addr) : Sp := fun vs H Q _ => ∃ (f o dx : Addr), vs = [.ref f, .ref o] ∧ H f = some (.ins C dx []) ∧
  ∀ d H', H d = none → H' f = some (.ins C dx (fldsF o d)) → H' d = some (.dK []) → (∀ b u, H b = some u → b ≠ f → H' b = some u) → Q .non H'
theorem ok_Floor_init (T : Txt K mg cx) : FK.IHas P w K mg base CX0 1 cx.Floor ["self", "orders"] (spFloorInit cx.Floor) := by
  refine T.d_Floor_init.ok sc_Floor_init (fun vs H Q E h => ?_) (fun f cdv A outer s H vs Q E hr h => ?_)
  · obtain ⟨f, o, dx, rfl, _⟩ := h
    rfl
  · obtain ⟨f, o, dx, rfl, hf, q⟩ := h
    refine ⟨_, (pss_cons (ps_fld (pv 0) (pv 1) rfl)
  (pss_one (ps_fld (pv 0) pe_dnewK rfl))), ?_⟩
    simp only [tSeq, tIfS, tOr, tAnd, tB, tTest, tCB, tCons, tVar, tC, tNil, tNot, tNotV, tRet, tRetN, tNext, tBreak, tOrV, tAndV, tOp, tUn, rEq, rNe, tChain, rI0, rI, rU, tAsg, gName, tDrop, tAug, ipI, tIf, tCall, tCallS, tLst, tTup, tBM, tBM0, rAppend, rExtend, rPop, rReverse, tyV, rIxL, rIxT, rIxS, rIsB, rNotB, L2.start, List.map_cons, List.map_nil, List.length_cons, List.length_nil, List.replicate, List.cons_append, List.nil_append, List.append_nil, List.getElem?_cons_zero, List.getElem?_cons_succ, List.set_cons_zero, List.set_cons_succ, Nat.reduceAdd, Nat.reduceSub, Option.some.injEq, exists_eq_left', exists_eq_left, V.int.injEq, V.bl.injEq, V.str.injEq, V.ref.injEq, List.cons.injEq, and_true, true_and, and_assoc, reduceCtorEq, false_and, exists_false, or_false, false_or, exists_and_left, exists_const, scal, Int.reduceLT, Int.reduceLE, Int.reduceSub, Int.reduceAdd, Int.reduceNeg, if_true, if_false]
    refine ⟨_, rfl, _, rfl, f, cx.Floor, dx, [], rfl, hf, T.cl_Floor, T.nF_Floor_orders, (by show 0 < 1000; decide), fun d hd => ?_⟩
    have nfd : f ≠ d := fun z => by rw [← z, upd_same] at hd; cases hd
    have hd0 : H d = none := by rw [upd_ne (fun z => nfd z.symm)] at hd; exact hd
    refine ⟨_, rfl, f, cx.Floor, dx, _, rfl, by rw [upd_ne nfd]; exact upd_same, T.cl_Floor, T.nF_Floor_scales, (by show 1 < 1000; decide), ?_⟩
    refine q d _ hd0 upd_same (by rw [upd_ne nfd.symm, upd_same]) fun b u e hb => ?_
    rw [upd_ne hb, upd_ne (fun z => by rw [z, hd0] at e; cases e), upd_ne hb]
    exact e
def spScale (K : PySem.W.Frag) (C : Addr) : Sp := fun vs H Q _ => ∃ (f o d : Addr) (a b c n : Nat), vs = [.ref f, .int (n : Int)] ∧ FlAt K C H f o d a b c ∧ n < 1024 ∧
  ∀ p H', FlAt K C H' f o d a b c → FK.But d H H' → ScAt K H' p a b c (bitsOf (n / 128)) → Q (.ref p) H'
theorem ok_Floor_scale (T : Txt K mg cx) : FK.MHas P w K mg base CX0 4 cx.Floor "scale" ["self", "steps"] (spScale K cx.Floor) := by
  have H_scale_for := ok_scale_for (P := P) (w := w) (base := base) T
  refine T.d_Floor_scale.ok sc_Floor_scale (fun vs H Q E h => ?_) (fun f cdv A outer s H vs Q E hr h => ?_)
  · obtain ⟨f, o, d, a, b, c, n, rfl, _⟩ := h
    rfl
  · obtain ⟨f, o, d, a, b, c, n, rfl, F, hn, q⟩ := h
    obtain ⟨⟨dx, h1⟩, h2, ha, hb, hc, kvs, h3, h4, h5⟩ := id F
    refine ⟨_, (pss_cons (ps_set (i := 2) sc_Floor_scale.nd rfl (Or.inl rfl) (by exact (pe_op op_add (pe_op op_fdivW (pv 1) (pe_glob (v := .int 128) rfl T.c_SIZE ⟨_, rfl⟩)) pe_int)))
  (pss_cons (ps_if (pt_cmp (pc_dnotin (hu_of hr) (pv 2) (pe_fld (pv 0) rfl))) (pss_one (ps_dput (hu_of hr) (pe_fld (pv 0) rfl) (pv 2) (FK.pe_h (E := E0) H_scale_for (hr.mono (by decide)) pass0 (pa_cons (pe_fld (pv 0) rfl) (pa_cons (pe_op op_mulW (pv 2) (pe_glob (v := .int 128) rfl T.c_SIZE ⟨_, rfl⟩)) pa_nil))) rfl)) pss_nil)
  (pss_one (ps_ret (pe_dget (hu_of hr) (pe_fld (pv 0) rfl) (pv 2) (fun _ _ => rfl)))))), ?_⟩
    simp only [tSeq, tIfS, tOr, tAnd, tB, tTest, tCB, tCons, tVar, tC, tNil, tNot, tNotV, tRet, tRetN, tNext, tBreak, tOrV, tAndV, tOp, tUn, rEq, rNe, tChain, rI0, rI, rU, tAsg, gName, tDrop, tAug, ipI, tIf, tCall, tCallS, tLst, tTup, tBM, tBM0, rAppend, rExtend, rPop, rReverse, tyV, rIxL, rIxT, rIxS, rIsB, rNotB, L2.start, List.map_cons, List.map_nil, List.length_cons, List.length_nil, List.replicate, List.cons_append, List.nil_append, List.append_nil, List.getElem?_cons_zero, List.getElem?_cons_succ, List.set_cons_zero, List.set_cons_succ, Nat.reduceAdd, Nat.reduceSub, Option.some.injEq, exists_eq_left', exists_eq_left, V.int.injEq, V.bl.injEq, V.str.injEq, V.ref.injEq, List.cons.injEq, and_true, true_and, and_assoc, reduceCtorEq, false_and, exists_false, or_false, false_or, exists_and_left, exists_const, scal, Int.reduceLT, Int.reduceLE, Int.reduceSub, Int.reduceAdd, Int.reduceNeg, if_true, if_false]
    have en : ((n : Int) / 128 + 1) = ((n / 128 + 1 : Nat) : Int) := by omega
    have hs : n / 128 < 8 := by omega
    rw [en]
    refine ⟨⟨by decide, by decide +kernel⟩, _, rfl, _, rfl, f, cx.Floor, dx, _, _, rfl, h1, T.cl_Floor, T.nF_Floor_scales, fldsF_s _ _, d, _, rfl, DGet.k (k := kS (n / 128)) h3, _, rfl, ?_⟩
    cases e : valV kvs (kS (n / 128)) with
    | none =>
      refine iteT ?_
      simp only [tSeq, tIfS, tOr, tAnd, tB, tTest, tCB, tCons, tVar, tC, tNil, tNot, tNotV, tRet, tRetN, tNext, tBreak, tOrV, tAndV, tOp, tUn, rEq, rNe, tChain, rI0, rI, rU, tAsg, gName, tDrop, tAug, ipI, tIf, tCall, tCallS, tLst, tTup, tBM, tBM0, rAppend, rExtend, rPop, rReverse, tyV, rIxL, rIxT, rIxS, rIsB, rNotB, L2.start, List.map_cons, List.map_nil, List.length_cons, List.length_nil, List.replicate, List.cons_append, List.nil_append, List.append_nil, List.getElem?_cons_zero, List.getElem?_cons_succ, List.set_cons_zero, List.set_cons_succ, Nat.reduceAdd, Nat.reduceSub, Option.some.injEq, exists_eq_left', exists_eq_left, V.int.injEq, V.bl.injEq, V.str.injEq, V.ref.injEq, List.cons.injEq, and_true, true_and, and_assoc, reduceCtorEq, false_and, exists_false, or_false, false_or, exists_and_left, exists_const, scal, Int.reduceLT, Int.reduceLE, Int.reduceSub, Int.reduceAdd, Int.reduceNeg, if_true, if_false, sDPut]
      refine ⟨_, rfl, f, cx.Floor, dx, _, _, rfl, h1, T.cl_Floor, T.nF_Floor_orders, fldsF_o _ _, wide_mul (a := 30) (b := 30) (by omega) (by decide) (by decide) (by decide) (by decide), o, a, b, c, n / 128, ?_, h2, ha, hb, hc, hs, fun p H1 s1 hp hsc => ?_⟩
      · rw [show ((n / 128 + 1 : Nat) : Int) * 128 = ((128 * (n / 128 + 1) : Nat) : Int) by omega]
      · have k3 := s1 _ _ h3
        have nfd : f ≠ d := fun z => by rw [z, h3] at h1; cases h1
        have hl := kvs_small h4 h5
        refine ⟨_, rfl, f, cx.Floor, dx, _, _, rfl, s1 _ _ h1, T.cl_Floor, T.nF_Floor_scales, fldsF_s _ _, d, rfl, _, DPut.k (k := kS (n / 128)) k3 (Nat.lt_of_le_of_lt hl (by decide)), ?_⟩
        have hg := DGet.k (k := kS (n / 128)) (upd_same (H := H1) (a := d) (o := HO.dK (putK kvs (kS (n / 128)) (.ref p))))
        rw [valV_put, if_pos rfl] at hg
        refine ⟨_, rfl, f, cx.Floor, dx, _, _, rfl, by rw [upd_ne nfd]; exact s1 _ _ h1, T.cl_Floor, T.nF_Floor_scales, fldsF_s _ _, _, rfl, d, _, rfl, hg, q p _ ?_ (fun x u hx hu => by rw [upd_ne hx]; exact s1 _ _ hu) (hsc.upd k3)⟩
        refine ⟨⟨dx, by rw [upd_ne nfd]; exact s1 _ _ h1⟩, SqT.upd (FK.Same.tupS s1 h2) k3, ha, hb, hc, _, upd_same, nd_putK _ h4 e, fun kv hm => ?_⟩
        rw [putK_new _ e] at hm
        rcases List.mem_append.mp hm with hm | hm
        · obtain ⟨s', p', a1, a2, a3⟩ := h5 kv hm
          exact ⟨s', p', a1, a2, (a3.same s1).upd k3⟩
        · exact ⟨n / 128, p, hs, List.mem_singleton.mp hm, hsc.upd k3⟩
    | some v =>
      refine iteF ?_
      have hm : (kS (n / 128), v) ∈ kvs := valV_mem e
      obtain ⟨s', p, hs', hp, hsc⟩ := h5 _ hm
      have e1 : s' = n / 128 := by
        have := congrArg Prod.fst hp
        simp only [kS, Sum.inl.injEq] at this
        omega
      have e2 : v = .ref p := congrArg Prod.snd hp
      subst e1 e2
      have hg := DGet.k (k := kS (n / 128)) h3
      rw [e] at hg
      exact ⟨_, rfl, f, cx.Floor, dx, _, _, rfl, h1, T.cl_Floor, T.nF_Floor_scales, fldsF_s _ _, _, rfl, d, _, rfl, hg, q p H F .refl hsc⟩

/-- the sizes that are used fit -/
theorem fits_at {a b c s : Nat} (ha : okOrd a) (hb : okOrd b) (hc : okOrd c) (hs : s < 8) : Cox.Fits (om a b c) (bendT a b c (bitsOf s)) (TT s) (128 * (s + 1)) := by
  obtain ⟨h1, h2, h3⟩ := size_ok ⟨s, hs⟩
  exact fits h1 h2 h3 ha hb hc
/-- the program's normal word -/
def nfw (a b c : Nat) (w : W) : W := greedy (bendT a b c (bitsOf (2 * w.length / 128))) (TT (2 * w.length / 128)) w.length (Cox.depI (bendT a b c (bitsOf (2 * w.length / 128))) (TT (2 * w.length / 128)) w)
theorem nfw_ok {a b c : Nat} (ha : okOrd a) (hb : okOrd b) (hc : okOrd c) {w : W} (hw : 2 * w.length < 1024) :
    Eqv (om a b c) w (nfw a b c w) ∧ Red (om a b c) (nfw a b c w) ∧ (nfw a b c w).length = ln (om a b c) w ∧ ∀ v, Red (om a b c) v → Eqv (om a b c) w v → lx (nfw a b c w) v := by
  have F := fits_at (s := 2 * w.length / 128) ha hb hc (by omega)
  have h := greedy_ok F w.length w (by omega) (ln_le (.refl w))
  refine ⟨h.1, ?_, h.2.1, h.2.2⟩
  show ln (om a b c) (nfw a b c w) = (nfw a b c w).length
  exact (ln_eqv h.1).symm.trans h.2.1.symm
/-- the program's ends -/
def endw (a b c : Nat) (w : W) : W := negs (Cox.depI (bendT a b c (bitsOf (w.length / 128))) (TT (w.length / 128)) w.reverse)
theorem endw_ok {a b c : Nat} (ha : okOrd a) (hb : okOrd b) (hc : okOrd c) {w : W} (hw : w.length < 1024) (s : Fin 3) : s ∈ endw a b c w ↔ ln (om a b c) w = ln (om a b c) (w ++ [s]) + 1 := by
  have F := fits_at (s := w.length / 128) ha hb hc (by omega)
  rw [← ends_neg F (w := w) (by omega) s]
  unfold endw negs
  rw [List.mem_filter]
  refine ⟨fun h => of_decide_eq_true h.2, fun h => ⟨?_, decide_eq_true h⟩⟩
  have all3 : ∀ s : Fin 3, s ∈ ([0, 1, 2] : List (Fin 3)) := by decide
  exact all3 s
theorem firstNeg_neg {D : Fin 3 → Int} {i : Fin 3} (h : firstNeg D = some i) : D i < 0 := by
  unfold firstNeg at h
  split at h
  · cases h; assumption
  · split at h
    · cases h; assumption
    · split at h
      · cases h; assumption
      · cases h
theorem greedy_none {B : Fin 3 → Fin 3 → Int} {t : Int} {m : Nat} {D : Fin 3 → Int} (h : firstNeg D = none) : greedy B t m D = [] := by
  cases m with
  | zero => rfl
  | succ m =>
    unfold greedy
    rw [h]
theorem greedy_some {B : Fin 3 → Fin 3 → Int} {t : Int} {m : Nat} {D : Fin 3 → Int} {i : Fin 3} (h : firstNeg D = some i) : greedy B t (m + 1) D = i :: greedy B t m (Cox.stepI B t i D) := by
  show (match firstNeg D with | none => [] | some i => i :: greedy B t m (Cox.stepI B t i D)) = _
  rw [h]
theorem wS_ne (i : Fin 3) : (!decide (wS [i] = "")) = true := by
  revert i
  decide +kernel
def spNorm (K : PySem.W.Frag) (C : Addr) : Sp := fun vs H Q _ => ∃ (f o d : Addr) (a b c : Nat) (w : W), vs = [.ref f, .str (wS w)] ∧ FlAt K C H f o d a b c ∧ 2 * w.length < 1024 ∧
  ∀ H', FlAt K C H' f o d a b c → FK.But d H H' → Q (.str (wS (nfw a b c w))) H'
theorem ok_Floor_normal (T : Txt K mg cx) : FK.MHas P w K mg base CX0 5 cx.Floor "normal" ["self", "word"] (spNorm K cx.Floor) := by
  have H_Floor_scale := ok_Floor_scale (P := P) (w := w) (base := base) T
  have H_depths_of := ok_depths_of (P := P) (w := w) (base := base) T
  have H_depths_behind := ok_depths_behind (P := P) (w := w) (base := base) T
  have H_first_far := ok_first_far (P := P) (w := w) (base := base) T
  refine T.d_Floor_normal.ok sc_Floor_normal (fun vs H Q E h => ?_) (fun f cdv A outer s H vs Q E hr h => ?_)
  · obtain ⟨f, o, d, a, b, c, n, rfl, _⟩ := h
    rfl
  · obtain ⟨f, o, d, a, b, c, w, rfl, F, hw, q⟩ := h
    obtain ⟨dx, h1⟩ := F.ob
    refine ⟨_, (pss_cons (ps_set (i := 2) sc_Floor_normal.nd rfl (Or.inl rfl) (by exact (FK.pe_m (E := E0) (pv 0) T.cl_Floor H_Floor_scale (hr.mono (by decide)) pass0 (pa_cons (pe_op op_mulW pe_int (pe_callB call_len_str (by rfl) T.n_len PySem.boot_len (pa_cons (pv 1) pa_nil))) pa_nil))))
  (pss_cons (ps_set (i := 3) sc_Floor_normal.nd rfl (Or.inl rfl) (by exact (FK.pe_h (E := E0) H_depths_of (hr.mono (by decide)) pass0 (pa_cons (pv 2) (pa_cons (pv 1) pa_nil)))))
  (pss_cons (ps_set (i := 4) sc_Floor_normal.nd rfl (Or.inl rfl) (by exact (pe_lst pa_nil)))
  (pss_cons (ps_set (i := 5) sc_Floor_normal.nd rfl (Or.inl rfl) (by exact (FK.pe_h (E := E0) H_first_far (hr.mono (by decide)) pass0 (pa_cons (pv 3) pa_nil))))
  (pss_cons (ps_while PassesOwn.never (pt_cmpR op_ne (pv 5) pe_str (nomark _)) (pss_cons (ps_expr (pe_bm PySem.F.plainAttrs_list PySem.F.slot_list_append PySem.F.type_list_append mt_append (pv 4) (pa_cons (pv 5) pa_nil)))
  (pss_cons (ps_set (i := 3) sc_Floor_normal.nd rfl (Or.inl rfl) (by exact (FK.pe_h (E := E0) H_depths_behind (hr.mono (by decide)) pass0 (pa_cons (pv 2) (pa_cons (pv 3) (pa_cons (pv 5) pa_nil))))))
  (pss_one (ps_set (i := 5) sc_Floor_normal.nd rfl (Or.inl rfl) (by exact (FK.pe_h (E := E0) H_first_far (hr.mono (by decide)) pass0 (pa_cons (pv 3) pa_nil))))))))
  (pss_one (ps_ret (pe_join pe_str (pv 4))))))))), ?_⟩
    simp only [tSeq, tIfS, tOr, tAnd, tB, tTest, tCB, tCons, tVar, tC, tNil, tNot, tNotV, tRet, tRetN, tNext, tBreak, tOrV, tAndV, tOp, tUn, rEq, rNe, tChain, rI0, rI, rU, tAsg, gName, tDrop, tAug, ipI, tIf, tCall, tCallS, tLst, tTup, tBM, tBM0, rAppend, rExtend, rPop, rReverse, tyV, rIxL, rIxT, rIxS, rIsB, rNotB, L2.start, List.map_cons, List.map_nil, List.length_cons, List.length_nil, List.replicate, List.cons_append, List.nil_append, List.append_nil, List.getElem?_cons_zero, List.getElem?_cons_succ, List.set_cons_zero, List.set_cons_succ, Nat.reduceAdd, Nat.reduceSub, Option.some.injEq, exists_eq_left', exists_eq_left, V.int.injEq, V.bl.injEq, V.str.injEq, V.ref.injEq, List.cons.injEq, and_true, true_and, and_assoc, reduceCtorEq, false_and, exists_false, or_false, false_or, exists_and_left, exists_const, scal, Int.reduceLT, Int.reduceLE, Int.reduceSub, Int.reduceAdd, Int.reduceNeg, if_true, if_false, tMeth]
    have ez : (wS w).length = w.length := wS_len w
    have zl : ∀ n : Nat, n ≤ 2000 → n ≤ sizeLine := fun n h => Nat.le_trans h (by decide)
    refine ⟨dx, _, h1, fldsF_no _ _ (by decide +kernel) (by decide +kernel), zl _ (by omega), wide_mul (a := 2) (b := 30) (by decide) (by omega) (by decide) (by decide) (by decide), f, o, d, a, b, c, 2 * w.length, by rw [ez]; rfl, F, hw, fun sc H1 F1 b1 hsc => ?_⟩
    obtain ⟨S, hS⟩ : ∃ S, S = 2 * w.length / 128 := ⟨_, rfl⟩
    rw [← hS] at hsc
    have hS8 : S < 8 := by omega
    have Ft := fits_at (s := S) F.ha F.hb F.hc hS8
    have hK : 2 * w.length ≤ 128 * (S + 1) := by omega
    refine ⟨sc, a, b, c, S, w, rfl, hsc, hS8, F.ha, F.hb, F.hc, by omega, fun p0 H2 s2 hp0 e2 => ⟨zl _ (by omega), fun L hL => ?_⟩⟩
    have hL1 : H1 L = none := back s2 hL
    refine ⟨p0, _, rfl, by rw [upd_ne (fun z => by rw [z, hL] at e2; cases e2)]; exact e2, fun H3 s3 => ?_⟩
    have s13 : Same H1 H3 := (s2.trans (FK.same_new hL)).trans s3
    have enf : nfw a b c w = greedy (bendT a b c (bitsOf S)) (TT S) w.length (Cox.depI (bendT a b c (bitsOf S)) (TT S) w) := by rw [hS]; rfl
    refine rd_while (fun m σ H' => ∃ (u acc : W) (p : Addr), σ = [some (.ref f), some (.str (wS w)), some (.ref sc), some (.ref p), some (.ref L), some (.str (match firstNeg (Cox.depI (bendT a b c (bitsOf S)) (TT S) u) with | none => "" | some i => wS [i]))] ∧
        Same H1 H' ∧ H' L = some (.lst ((acc.map fun i => wS [i]).map V.str)) ∧ H' p = some (.tup (v3i (Cox.depI (bendT a b c (bitsOf S)) (TT S) u))) ∧ ln (om a b c) u ≤ m ∧ u.length + m ≤ 128 * (S + 1) ∧ u.length + m ≤ 2000 ∧ acc.length + m = w.length ∧
        nfw a b c w = acc ++ greedy (bendT a b c (bitsOf S)) (TT S) m (Cox.depI (bendT a b c (bitsOf S)) (TT S) u)) w.length
      ⟨w, [], p0, rfl, s13, s3 _ _ upd_same, s3 _ _ (by rw [upd_ne (fun z => by rw [z, hL] at e2; cases e2)]; exact e2), ln_self w, by omega, by omega, by simp, enf⟩ ?_ (fun σ H Q Q' hQ h => by
        simp only [tSeq, tIfS, tOr, tAnd, tB, tTest, tCB, tCons, tVar, tC, tNil, tNot, tNotV, tRet, tRetN, tNext, tBreak, tOrV, tAndV, tOp, tUn, rEq, rNe, tChain, rI0, rI, rU, tAsg, gName, tDrop, tAug, ipI, tIf, tCall, tCallS, tLst, tTup, tBM, tBM0, rAppend, rExtend, rPop, rReverse, tyV, rIxL, rIxT, rIxS, rIsB, rNotB, L2.start, List.map_cons, List.map_nil, List.length_cons, List.length_nil, List.replicate, List.cons_append, List.nil_append, List.append_nil, List.getElem?_cons_zero, List.getElem?_cons_succ, List.set_cons_zero, List.set_cons_succ, Nat.reduceAdd, Nat.reduceSub, Option.some.injEq, exists_eq_left', exists_eq_left, V.int.injEq, V.bl.injEq, V.str.injEq, V.ref.injEq, List.cons.injEq, and_true, true_and, and_assoc, reduceCtorEq, false_and, exists_false, or_false, false_or, exists_and_left, exists_const, scal, Int.reduceLT, Int.reduceLE, Int.reduceSub, Int.reduceAdd, Int.reduceNeg, if_true, if_false] at h ⊢
        obtain ⟨v, a1, a2, a3⟩ := h
        exact ⟨v, a1, a2, hQ _ _ a3⟩)
    rintro m σ H4 ⟨u, acc, p, rfl, s4, eL, ep, n1, n2, n3, n4, en⟩
    simp only [tSeq, tIfS, tOr, tAnd, tB, tTest, tCB, tCons, tVar, tC, tNil, tNot, tNotV, tRet, tRetN, tNext, tBreak, tOrV, tAndV, tOp, tUn, rEq, rNe, tChain, rI0, rI, rU, tAsg, gName, tDrop, tAug, ipI, tIf, tCall, tCallS, tLst, tTup, tBM, tBM0, rAppend, rExtend, rPop, rReverse, tyV, rIxL, rIxT, rIxS, rIsB, rNotB, L2.start, List.map_cons, List.map_nil, List.length_cons, List.length_nil, List.replicate, List.cons_append, List.nil_append, List.append_nil, List.getElem?_cons_zero, List.getElem?_cons_succ, List.set_cons_zero, List.set_cons_succ, Nat.reduceAdd, Nat.reduceSub, Option.some.injEq, exists_eq_left', exists_eq_left, V.int.injEq, V.bl.injEq, V.str.injEq, V.ref.injEq, List.cons.injEq, and_true, true_and, and_assoc, reduceCtorEq, false_and, exists_false, or_false, false_or, exists_and_left, exists_const, scal, Int.reduceLT, Int.reduceLE, Int.reduceSub, Int.reduceAdd, Int.reduceNeg, if_true, if_false]
    have n5 : u.length ≤ 128 * (S + 1) := by omega
    cases eF : firstNeg (Cox.depI (bendT a b c (bitsOf S)) (TT S) u) with
    | none =>
      refine iteF' (by decide +kernel) ?_
      rw [greedy_none eF, List.append_nil] at en
      refine ⟨⟨_, rfl⟩, _, rfl, "", rfl, L, rfl, acc.map fun i => wS [i], .inl (SqL.of eL), ?_, ?_⟩
      · rw [sum_wS]
        have h2 : (acc.map fun i => wS [i]).length * ("" : Str).length = 0 := Nat.mul_zero _
        omega
      · rw [join_wS, ← en]
        exact q H4 (F1.same s4) (b1.trans (.of s4))
    | some i =>
      refine iteT' (wS_ne i) ?_
      have hneg := firstNeg_neg eF
      have hln := (neg_iff Ft n5 i).mp hneg
      obtain ⟨m', rfl⟩ : ∃ m', m = m' + 1 := ⟨m - 1, by omega⟩
      have eg : greedy (bendT a b c (bitsOf S)) (TT S) (m' + 1) (Cox.depI (bendT a b c (bitsOf S)) (TT S) u) = i :: greedy (bendT a b c (bitsOf S)) (TT S) m' (Cox.depI (bendT a b c (bitsOf S)) (TT S) (i :: u)) := greedy_some eF
      rw [eg] at en
      simp only [tSeq, tIfS, tOr, tAnd, tB, tTest, tCB, tCons, tVar, tC, tNil, tNot, tNotV, tRet, tRetN, tNext, tBreak, tOrV, tAndV, tOp, tUn, rEq, rNe, tChain, rI0, rI, rU, tAsg, gName, tDrop, tAug, ipI, tIf, tCall, tCallS, tLst, tTup, tBM, tBM0, rAppend, rExtend, rPop, rReverse, tyV, rIxL, rIxT, rIxS, rIsB, rNotB, L2.start, List.map_cons, List.map_nil, List.length_cons, List.length_nil, List.replicate, List.cons_append, List.nil_append, List.append_nil, List.getElem?_cons_zero, List.getElem?_cons_succ, List.set_cons_zero, List.set_cons_succ, Nat.reduceAdd, Nat.reduceSub, Option.some.injEq, exists_eq_left', exists_eq_left, V.int.injEq, V.bl.injEq, V.str.injEq, V.ref.injEq, List.cons.injEq, and_true, true_and, and_assoc, reduceCtorEq, false_and, exists_false, or_false, false_or, exists_and_left, exists_const, scal, Int.reduceLT, Int.reduceLE, Int.reduceSub, Int.reduceAdd, Int.reduceNeg, if_true, if_false]
      refine ⟨.inl ⟨_, SqL.of eL⟩, _, eL, ?_, ?_⟩
      · rw [List.length_map, List.length_map]
        exact Nat.lt_of_le_of_lt (show acc.length ≤ 2000 by omega) (by show 2000 < 16777216; decide)
      have s5 : Same H1 (upd H4 L (.lst (((acc.map fun i => wS [i]).map V.str) ++ [.str (wS [i])]))) := FK.same_at hL1 s4
      have npL : p ≠ L := fun z => by rw [z, eL] at ep; cases ep
      refine ⟨sc, p, a, b, c, S, _, i, rfl, hsc.same s5, hS8, F.ha, F.hb, F.hc, by rw [upd_ne npL]; exact ep, fun j => depI_small hS8 F.ha F.hb F.hc (by omega) j, fun p2 H5 s6 hp2 e5 => ?_⟩
      refine ⟨p2, _, rfl, e5, fun H6 s7 => ?_⟩
      refine ⟨m', by omega, i :: u, acc ++ [i], p2, rfl, rfl, (s5.trans s6).trans s7, ?_, s7 _ _ e5, by omega, by rw [List.length_cons]; omega, by rw [List.length_cons]; omega, by rw [List.length_append, List.length_singleton]; omega, ?_⟩
      · rw [List.map_append, List.map_append]
        exact s7 _ _ (s6 _ _ upd_same)
      · rw [en, List.append_assoc]
        rfl
def spEndsF (K : PySem.W.Frag) (C : Addr) : Sp := fun vs H Q _ => ∃ (f o d : Addr) (a b c : Nat) (w : W), vs = [.ref f, .str (wS w)] ∧ FlAt K C H f o d a b c ∧ w.length < 1024 ∧
  ∀ H', FlAt K C H' f o d a b c → FK.But d H H' → Q (.str (wS (endw a b c w))) H'
theorem ok_Floor_ends (T : Txt K mg cx) : FK.MHas P w K mg base CX0 5 cx.Floor "ends" ["self", "word"] (spEndsF K cx.Floor) := by
  have H_Floor_scale := ok_Floor_scale (P := P) (w := w) (base := base) T
  have H_depths_of := ok_depths_of (P := P) (w := w) (base := base) T
  have H_far_letters := ok_far_letters (P := P) (w := w) (base := base) T
  refine T.d_Floor_ends.ok sc_Floor_ends (fun vs H Q E h => ?_) (fun f cdv A outer s H vs Q E hr h => ?_)
  · obtain ⟨f, o, d, a, b, c, n, rfl, _⟩ := h
    rfl
  · obtain ⟨f, o, d, a, b, c, w, rfl, F, hw, q⟩ := h
    obtain ⟨dx, h1⟩ := F.ob
    refine ⟨_, (pss_one (ps_ret (FK.pe_h (E := E0) H_far_letters (hr.mono (by decide)) pass0 (pa_cons (FK.pe_h (E := E0) H_depths_of (hr.mono (by decide)) pass0 (pa_cons (FK.pe_m (E := E0) (pv 0) T.cl_Floor H_Floor_scale (hr.mono (by decide)) pass0 (pa_cons (pe_callB call_len_str (by rfl) T.n_len PySem.boot_len (pa_cons (pv 1) pa_nil)) pa_nil)) (pa_cons (FK.pe_revS (pv 1)) pa_nil))) pa_nil)))), ?_⟩
    simp only [tSeq, tIfS, tOr, tAnd, tB, tTest, tCB, tCons, tVar, tC, tNil, tNot, tNotV, tRet, tRetN, tNext, tBreak, tOrV, tAndV, tOp, tUn, rEq, rNe, tChain, rI0, rI, rU, tAsg, gName, tDrop, tAug, ipI, tIf, tCall, tCallS, tLst, tTup, tBM, tBM0, rAppend, rExtend, rPop, rReverse, tyV, rIxL, rIxT, rIxS, rIsB, rNotB, L2.start, List.map_cons, List.map_nil, List.length_cons, List.length_nil, List.replicate, List.cons_append, List.nil_append, List.append_nil, List.getElem?_cons_zero, List.getElem?_cons_succ, List.set_cons_zero, List.set_cons_succ, Nat.reduceAdd, Nat.reduceSub, Option.some.injEq, exists_eq_left', exists_eq_left, V.int.injEq, V.bl.injEq, V.str.injEq, V.ref.injEq, List.cons.injEq, and_true, true_and, and_assoc, reduceCtorEq, false_and, exists_false, or_false, false_or, exists_and_left, exists_const, scal, Int.reduceLT, Int.reduceLE, Int.reduceSub, Int.reduceAdd, Int.reduceNeg, if_true, if_false, tMeth]
    have ez : (wS w).length = w.length := wS_len w
    have zl : ∀ n : Nat, n ≤ 2000 → n ≤ sizeLine := fun n h => Nat.le_trans h (by decide)
    refine ⟨dx, _, h1, fldsF_no _ _ (by decide +kernel) (by decide +kernel), zl _ (by omega), f, o, d, a, b, c, w.length, by rw [ez], F, hw, fun sc H1 F1 b1 hsc => ?_⟩
    have hS8 : w.length / 128 < 8 := by omega
    refine ⟨_, rfl, wS w, rfl, zl _ (by omega), sc, a, b, c, w.length / 128, w.reverse, by rw [wS_rev], hsc, hS8, F.ha, F.hb, F.hc, by rw [List.length_reverse]; omega, fun p0 H2 s2 hp0 e2 => ?_⟩
    exact ⟨p0, _, rfl, e2, fun H3 s3 => q H3 (F1.same (s2.trans s3)) (b1.trans (.of (s2.trans s3)))⟩
/-- the orders of a floor, in the heap -/
def spNormal (K : PySem.W.Frag) (CO CW : Addr) : Sp := fun vs H Q E => ∃ (o : Addr) (ns : List Int) (x : Str), vs = [.ref o, .str x] ∧ SqT K H o (ns.map V.int) ∧ x.length < sizeLine ∧
  (okOrders ns = false → ∀ H', Same H H' → E (.ref CO) none H') ∧ (okOrders ns = true → okWord x 60 = false → ∀ H', Same H H' → E (.ref CW) none H') ∧
  (okOrders ns = true → okWord x 60 = true → ∀ (a b c : Nat) (w : W) H', ns = [(a : Int), (b : Int), (c : Int)] → okOrd a → okOrd b → okOrd c → x = wS w → w.length ≤ 60 → Same H H' → Q (.str (wS (nfw a b c w))) H')
theorem okOrd_of {n : Int} (h : okOrder n = true) : ∃ a : Nat, n = (a : Int) ∧ okOrd a := by
  have hb := okOrder_bound h
  refine ⟨n.toNat, by omega, ?_⟩
  unfold okOrder at h
  simp only [Bool.or_eq_true, Bool.and_eq_true, decide_eq_true_eq] at h
  unfold okOrd
  omega
theorem orders_of {ns : List Int} (h : okOrders ns = true) : ∃ a b c : Nat, ns = [(a : Int), (b : Int), (c : Int)] ∧ okOrd a ∧ okOrd b ∧ okOrd c := by
  obtain ⟨m0, m1, m2, rfl⟩ := len3 h
  unfold okOrders at h
  rw [Bool.and_eq_true] at h
  have h2 := List.all_eq_true.mp h.2
  obtain ⟨a, rfl, ha⟩ := okOrd_of (h2 m0 (by simp))
  obtain ⟨b, rfl, hb⟩ := okOrd_of (h2 m1 (by simp))
  obtain ⟨c, rfl, hc⟩ := okOrd_of (h2 m2 (by simp))
  exact ⟨a, b, c, rfl, ha, hb, hc⟩
theorem word_ok {x : Str} {m : Int} (h : okWord x m = true) : ∃ w, x = wS w ∧ (w.length : Int) ≤ m := by
  unfold okWord at h
  rw [Bool.and_eq_true] at h
  obtain ⟨w, rfl⟩ := word_of (x := x) fun c hc => List.all_eq_true.mp h.2 c hc
  have := of_decide_eq_true h.1
  rw [wS_len] at this
  exact ⟨w, rfl, this⟩
theorem okWord_wS {w : W} {m : Int} (h : (w.length : Int) ≤ m) : okWord (wS w) m = true := by
  unfold okWord
  rw [wS_len, decide_eq_true h, Bool.true_and, List.all_eq_true]
  intro c hc
  rw [wS_list] at hc
  obtain ⟨i, _, rfl⟩ := List.mem_map.mp hc
  exact Cox.is_letter i
/-- what stands behind Floor(orders) -/
theorem floor_new {C : Addr} {H H4 : Hp} {f o d dx : Addr} {a b c : Nat} (hS : SqT K H o [.int (a : Int), .int (b : Int), .int (c : Int)]) (ha : okOrd a) (hb : okOrd b) (hc : okOrd c) (hf : H f = none) (hdx : H dx = none)
    (hd : upd (upd H dx (.own f)) f (.ins C dx []) d = none) (e1 : H4 f = some (.ins C dx (fldsF o d))) (e2 : H4 d = some (.dK [])) (kp : ∀ b u, upd (upd H dx (.own f)) f (.ins C dx []) b = some u → b ≠ f → H4 b = some u) :
    FlAt K C H4 f o d a b c ∧ Same H H4 ∧ H d = none := by
  have nf : ∀ b u, H b = some u → b ≠ f := fun b u e z => by rw [z, hf] at e; cases e
  have ndx : ∀ b u, H b = some u → b ≠ dx := fun b u e z => by rw [z, hdx] at e; cases e
  have s : Same H H4 := fun b u e => kp b u (by rw [upd_ne (nf b u e), upd_ne (ndx b u e)]; exact e) (nf b u e)
  refine ⟨⟨⟨dx, e1⟩, FK.Same.tupS s hS, ha, hb, hc, [], e2, List.nodup_nil, fun _ h => nomatch h⟩, s, ?_⟩
  cases e : H d with
  | none => rfl
  | some u =>
    rw [upd_ne (nf d u e), upd_ne (ndx d u e), e] at hd
    cases hd
theorem but_same {H H4 H5 : Hp} {d : Addr} (s : Same H H4) (hd : H d = none) (b : FK.But d H4 H5) : Same H H5 := fun x u e => b x u (fun z => by rw [z, hd] at e; cases e) (s x u e)
def spLength (K : PySem.W.Frag) (CO CW : Addr) : Sp := fun vs H Q E => ∃ (o : Addr) (ns : List Int) (x : Str), vs = [.ref o, .str x] ∧ SqT K H o (ns.map V.int) ∧ x.length < sizeLine ∧
  (okOrders ns = false → ∀ H', Same H H' → E (.ref CO) none H') ∧ (okOrders ns = true → okWord x 60 = false → ∀ H', Same H H' → E (.ref CW) none H') ∧
  (okOrders ns = true → okWord x 60 = true → ∀ (a b c : Nat) (w : W) H', ns = [(a : Int), (b : Int), (c : Int)] → okOrd a → okOrd b → okOrd c → x = wS w → w.length ≤ 60 → Same H H' → Q (.int ((nfw a b c w).length : Nat)) H')
theorem nfw_len {a b c : Nat} (ha : okOrd a) (hb : okOrd b) (hc : okOrd c) {w : W} (hw : w.length ≤ 60) : (nfw a b c w).length ≤ 60 := by
  have := (nfw_ok ha hb hc (w := w) (by omega)).2.2.1
  have h2 := ln_self (m := om a b c) w
  omega
def spShortest (K : PySem.W.Frag) (CO CW : Addr) : Sp := fun vs H Q E => ∃ (o : Addr) (ns : List Int) (x : Str), vs = [.ref o, .str x] ∧ SqT K H o (ns.map V.int) ∧ x.length < sizeLine ∧
  (okOrders ns = false → ∀ H', Same H H' → E (.ref CO) none H') ∧ (okOrders ns = true → okWord x 60 = false → ∀ H', Same H H' → E (.ref CW) none H') ∧
  (okOrders ns = true → okWord x 60 = true → ∀ (a b c : Nat) (w : W) H', ns = [(a : Int), (b : Int), (c : Int)] → okOrd a → okOrd b → okOrd c → x = wS w → w.length ≤ 60 → Same H H' → Q (.bl (decide ((nfw a b c w).length = w.length))) H')
def spEnds (K : PySem.W.Frag) (CO CW : Addr) : Sp := fun vs H Q E => ∃ (o : Addr) (ns : List Int) (x : Str), vs = [.ref o, .str x] ∧ SqT K H o (ns.map V.int) ∧ x.length < sizeLine ∧
  (okOrders ns = false → ∀ H', Same H H' → E (.ref CO) none H') ∧ (okOrders ns = true → okWord x 60 = false → ∀ H', Same H H' → E (.ref CW) none H') ∧
  (okOrders ns = true → okWord x 60 = true → ∀ (a b c : Nat) (w : W) H', ns = [(a : Int), (b : Int), (c : Int)] → okOrd a → okOrd b → okOrd c → x = wS w → w.length ≤ 60 → Same H H' → Q (.str (wS (endw a b c w))) H')

def lt3 (v : Int) : Fin 3 := ⟨(v % 3).toNat, by have := Int.emod_nonneg v (show (3 : Int) ≠ 0 by decide); have := Int.emod_lt_of_pos v (show (0 : Int) < 3 by decide); omega⟩
theorem at_lt3 (v : Int) : atI ("012" : Str).cps.toList (v % 3) = some (48 + (lt3 v).1) := by
  have h0 := Int.emod_nonneg v (show (3 : Int) ≠ 0 by decide)
  have h1 := Int.emod_lt_of_pos v (show (0 : Int) < 3 by decide)
  show _ = some (48 + (v % 3).toNat)
  generalize v % 3 = y at h0 h1 ⊢
  obtain ⟨k, rfl⟩ := Int.eq_ofNat_of_zero_le h0
  match k, h1 with
  | 0, _ => rfl
  | 1, _ => rfl
  | 2, _ => rfl
theorem cut_ints {zs : List Int} (h : 1 ≤ zs.length) (hi : Option Int) : ∃ sl : List Int, cutV (zs.map V.int) (some 1) hi = sl.map V.int ∧ sl.length ≤ zs.length - 1 := by
  refine ⟨(zs.drop (HT.sIx zs.length 0 (some 1))).take (HT.sIx zs.length zs.length hi - HT.sIx zs.length 0 (some 1)), ?_, ?_⟩
  · unfold cutV
    rw [List.length_map, List.map_take, List.map_drop]
  · rw [List.length_take, List.length_drop, show HT.sIx zs.length 0 (some 1) = 1 from sIx_nat zs.length 0 1 h]
    omega
theorem kinds8 {r : Int} (h0 : 0 ≤ r) (h1 : r < 8) : ∃ n : Nat, atI [V.int 3, V.int 2, V.int 4, V.int 5, V.int 3, V.int 7, V.int 0, V.int 6] r = some (.int (n : Int)) ∧ okOrd n := by
  obtain ⟨v, hv, hm⟩ := atI_mem (cs := [V.int 3, V.int 2, V.int 4, V.int 5, V.int 3, V.int 7, V.int 0, V.int 6]) h0 (by show r < 8; exact h1)
  have lit : ∀ n : Nat, (n = 0 ∨ 2 ≤ n ∧ n ≤ 12) → v = .int (n : Int) → ∃ n : Nat, atI [V.int 3, V.int 2, V.int 4, V.int 5, V.int 3, V.int 7, V.int 0, V.int 6] r = some (.int (n : Int)) ∧ okOrd n := fun n h e => ⟨n, by rw [hv, e], h⟩
  simp only [List.mem_cons, List.not_mem_nil, or_false] at hm
  rcases hm with e | e | e | e | e | e | e | e
  · exact lit 3 (by omega) e
  · exact lit 2 (by omega) e
  · exact lit 4 (by omega) e
  · exact lit 5 (by omega) e
  · exact lit 3 (by omega) e
  · exact lit 7 (by omega) e
  · exact lit 0 (by omega) e
  · exact lit 6 (by omega) e
def spLawOrders : Sp := fun vs H Q _ => ∃ i : Int, vs = [.int i] ∧ ∀ (o : Addr) (a b c : Nat) H', okOrd a → okOrd b → okOrd c → H o = none → H' o = some (.tup [.int (a : Int), .int (b : Int), .int (c : Int)]) → Same H H' → Q (.ref o) H'
theorem ok_law_orders (T : Txt K mg cx) : FK.Has P w K mg base CX0 1 "_law_orders" ["cell"] spLawOrders := by
  refine T.d_law_orders.ok sc_law_orders (fun vs H Q E h => ?_) (fun f cdv A outer s H vs Q E hr h => ?_)
  · obtain ⟨n, rfl, _⟩ := h
    rfl
  · obtain ⟨i, rfl, q⟩ := h
    refine ⟨_, (pss_cons (ps_set (i := 1) sc_law_orders.nd rfl (Or.inl rfl) (by exact (pe_lst (pa_cons pe_int (pa_cons pe_int (pa_cons pe_int (pa_cons pe_int (pa_cons pe_int (pa_cons pe_int (pa_cons pe_int (pa_cons pe_int pa_nil)))))))))))
  (pss_one (ps_ret (pe_tup (pa_cons (pe_ix (r := rIxL K) ix_list (pv 1) (pe_op op_mod (pv 0) pe_int) (fun _ _ => rfl)) (pa_cons (pe_ix (r := rIxL K) ix_list (pv 1) (pe_op op_mod (pe_op op_fdiv (pv 0) pe_int) pe_int) (fun _ _ => rfl)) (pa_cons (pe_ix (r := rIxL K) ix_list (pv 1) (pe_op op_mod (pe_op op_fdiv (pv 0) pe_int) pe_int) (fun _ _ => rfl)) pa_nil))))))), ?_⟩
    simp only [tSeq, tIfS, tOr, tAnd, tB, tTest, tCB, tCons, tVar, tC, tNil, tNot, tNotV, tRet, tRetN, tNext, tBreak, tOrV, tAndV, tOp, tUn, rEq, rNe, tChain, rI0, rI, rU, tAsg, gName, tDrop, tAug, ipI, tIf, tCall, tCallS, tLst, tTup, tBM, tBM0, rAppend, rExtend, rPop, rReverse, tyV, rIxL, rIxT, rIxS, rIsB, rNotB, L2.start, List.map_cons, List.map_nil, List.length_cons, List.length_nil, List.replicate, List.cons_append, List.nil_append, List.append_nil, List.getElem?_cons_zero, List.getElem?_cons_succ, List.set_cons_zero, List.set_cons_succ, Nat.reduceAdd, Nat.reduceSub, Option.some.injEq, exists_eq_left', exists_eq_left, V.int.injEq, V.bl.injEq, V.str.injEq, V.ref.injEq, List.cons.injEq, and_true, true_and, and_assoc, reduceCtorEq, false_and, exists_false, or_false, false_or, exists_and_left, exists_const, scal, Int.reduceLT, Int.reduceLE, Int.reduceSub, Int.reduceAdd, Int.reduceNeg, if_true, if_false]
    have m8 : ∀ y : Int, 0 ≤ y % 8 ∧ y % 8 < 8 := fun y => ⟨Int.emod_nonneg _ (by decide), Int.emod_lt_of_pos _ (by decide)⟩
    refine ⟨by decide, fun L hL => ?_⟩
    obtain ⟨a, ea, ha⟩ := kinds8 (m8 i).1 (m8 i).2
    obtain ⟨b, eb, hb⟩ := kinds8 (m8 (i / 8)).1 (m8 (i / 8)).2
    obtain ⟨c, ec, hc⟩ := kinds8 (m8 (i / 64)).1 (m8 (i / 64)).2
    have S := SqL.of (K := K) (upd_same (H := H) (a := L) (o := HO.lst [V.int 3, V.int 2, V.int 4, V.int 5, V.int 3, V.int 7, V.int 0, V.int 6]))
    exact ⟨_, S, _, ea, ⟨by decide, by decide⟩, _, S, _, eb, ⟨by decide, by decide⟩, _, S, _, ec, by decide, fun p hp => q p a b c _ ha hb hc (back (FK.same_new hL) hp) upd_same ((FK.same_new hL).trans (FK.same_new hp))⟩
def spLawWord : Sp := fun vs H Q _ => ∃ (i : Int) (m : Nat), vs = [.int i, .int (m : Int)] ∧ m ≤ 50 ∧ ∀ (u : W) H', u.length ≤ m → Same H H' → Q (.str (wS u)) H'
theorem ok_law_word (T : Txt K mg cx) : FK.Has P w K mg base CX0 2 "_law_word" ["cell", "most"] spLawWord := by
  have H_law_values := ok_law_values (P := P) (w := w) (base := base) T
  refine T.d_law_word.ok sc_law_word (fun vs H Q E h => ?_) (fun f cdv A outer s H vs Q E hr h => ?_)
  · obtain ⟨d, m, rfl, _⟩ := h
    rfl
  · obtain ⟨i, m, rfl, hm, q⟩ := h
    refine ⟨_, (pss_cons (ps_set (i := 2) sc_law_word.nd rfl (Or.inl rfl) (by exact (FK.pe_h (E := E0) H_law_values (hr.mono (by decide)) pass0 (pa_cons (pv 0) (pa_cons (pe_op op_add (pv 1) pe_int) (pa_cons pe_int pa_nil))))))
  (pss_one (ps_ret (pe_join pe_str (pe_lc (own := [("value", 3)]) (g := gName 3) (tt := tYes) rfl sc_law_word.nd (pi_list (pe_slice sl_list (pv 2) (po_some pe_int) (po_some (pe_op op_add pe_int (pe_op op_mod (pe_ix (r := rIxL K) ix_list (pv 2) pe_int (fun _ _ => rfl)) (pe_op op_add (pv 1) pe_int)))))) (blkOk_by (own := [("value", 3)]) (N := ["cell", "most", "values", "value"]) (sc := defScope s_law_word) (by decide +kernel)) (fun _ _ _ _ _ => (pg_name (i := 3) sc_law_word.nd rfl (Or.inl rfl))) (fun _ _ _ _ _ => pts_nil) (fun _ _ _ _ _ => (pe_ix ix_str pe_str (pe_op op_mod (pv 3) pe_int) (fun _ _ => rfl)))))))), ?_⟩
    simp only [tSeq, tIfS, tOr, tAnd, tB, tTest, tCB, tCons, tVar, tC, tNil, tNot, tNotV, tRet, tRetN, tNext, tBreak, tOrV, tAndV, tOp, tUn, rEq, rNe, tChain, rI0, rI, rU, tAsg, gName, tDrop, tAug, ipI, tIf, tCall, tCallS, tLst, tTup, tBM, tBM0, rAppend, rExtend, rPop, rReverse, tyV, rIxL, rIxT, rIxS, rIsB, rNotB, L2.start, List.map_cons, List.map_nil, List.length_cons, List.length_nil, List.replicate, List.cons_append, List.nil_append, List.append_nil, List.getElem?_cons_zero, List.getElem?_cons_succ, List.set_cons_zero, List.set_cons_succ, Nat.reduceAdd, Nat.reduceSub, Option.some.injEq, exists_eq_left', exists_eq_left, V.int.injEq, V.bl.injEq, V.str.injEq, V.ref.injEq, List.cons.injEq, and_true, true_and, and_assoc, reduceCtorEq, false_and, exists_false, or_false, false_or, exists_and_left, exists_const, scal, Int.reduceLT, Int.reduceLE, Int.reduceSub, Int.reduceAdd, Int.reduceNeg, if_true, if_false]
    refine ⟨i, m + 1, by rfl, by omega, fun L zs H1 hL s1 eL lz hz => ?_⟩
    simp only [tSeq, tIfS, tOr, tAnd, tB, tTest, tCB, tCons, tVar, tC, tNil, tNot, tNotV, tRet, tRetN, tNext, tBreak, tOrV, tAndV, tOp, tUn, rEq, rNe, tChain, rI0, rI, rU, tAsg, gName, tDrop, tAug, ipI, tIf, tCall, tCallS, tLst, tTup, tBM, tBM0, rAppend, rExtend, rPop, rReverse, tyV, rIxL, rIxT, rIxS, rIsB, rNotB, L2.start, List.map_cons, List.map_nil, List.length_cons, List.length_nil, List.replicate, List.cons_append, List.nil_append, List.append_nil, List.getElem?_cons_zero, List.getElem?_cons_succ, List.set_cons_zero, List.set_cons_succ, Nat.reduceAdd, Nat.reduceSub, Option.some.injEq, exists_eq_left', exists_eq_left, V.int.injEq, V.bl.injEq, V.str.injEq, V.ref.injEq, List.cons.injEq, and_true, true_and, and_assoc, reduceCtorEq, false_and, exists_false, or_false, false_or, exists_and_left, exists_const, scal, Int.reduceLT, Int.reduceLE, Int.reduceSub, Int.reduceAdd, Int.reduceNeg, if_true, if_false]
    refine ⟨⟨_, rfl⟩, FK.lc_lst ?_⟩
    simp only [tSeq, tIfS, tOr, tAnd, tB, tTest, tCB, tCons, tVar, tC, tNil, tNot, tNotV, tRet, tRetN, tNext, tBreak, tOrV, tAndV, tOp, tUn, rEq, rNe, tChain, rI0, rI, rU, tAsg, gName, tDrop, tAug, ipI, tIf, tCall, tCallS, tLst, tTup, tBM, tBM0, rAppend, rExtend, rPop, rReverse, tyV, rIxL, rIxT, rIxS, rIsB, rNotB, L2.start, List.map_cons, List.map_nil, List.length_cons, List.length_nil, List.replicate, List.cons_append, List.nil_append, List.append_nil, List.getElem?_cons_zero, List.getElem?_cons_succ, List.set_cons_zero, List.set_cons_succ, Nat.reduceAdd, Nat.reduceSub, Option.some.injEq, exists_eq_left', exists_eq_left, V.int.injEq, V.bl.injEq, V.str.injEq, V.ref.injEq, List.cons.injEq, and_true, true_and, and_assoc, reduceCtorEq, false_and, exists_false, or_false, false_or, exists_and_left, exists_const, scal, Int.reduceLT, Int.reduceLE, Int.reduceSub, Int.reduceAdd, Int.reduceNeg, if_true, if_false, tSl, tPart, rSlL]
    obtain ⟨z0, ez0, hz0⟩ : ∃ z0, atI (zs.map V.int) 0 = some (.int z0) ∧ z0 ∈ zs := by
      have h0 : 0 < zs.length := by omega
      exact ⟨zs[0], atI_nat (j := 0) (by rw [List.getElem?_map, List.getElem?_eq_getElem h0]; rfl), List.getElem_mem h0⟩
    have S := SqL.of (K := K) eL
    refine ⟨_, S, _, ez0, _, rfl, by omega, _, S, fun p hp => ?_⟩
    obtain ⟨sl, el, ll⟩ := cut_ints (zs := zs) (by omega) (some (1 + z0 % ((m : Int) + 1)))
    rw [el]
    refine ⟨⟨_, SqL.of upd_same⟩, ?_⟩
    have hn : (((sl.map lt3).map fun i => wS [i]).map V.str).length = (sl.map V.int).length := by simp
    refine FK.rd_lc_same (J := Itl K p) (H1 := upd H1 p (.lst (sl.map V.int))) (((sl.map lt3).map fun i => wS [i]).map V.str) (fun R r => r) (by rw [hn]; exact walk_list (xs := sl.map V.int)) (fun H' s' => SqL.of (s' _ _ upd_same)) (by rw [hn, List.length_map]; exact Nat.lt_of_le_of_lt (show sl.length ≤ 100 by omega) (by decide)) (fun _ => rfl) ?_ ?_ (fun _ _ _ _ (z : _ ∧ _) => by rw [z.1]; exact Same.refl _)
    · rintro j x z H' H'' R hz2 s' ⟨rfl, hx⟩ go
      rw [List.getElem?_map, List.getElem?_map, List.getElem?_map] at hz2
      rw [List.getElem?_map] at hx
      cases e : sl[j]? with
      | none => rw [e] at hx; cases hx
      | some v =>
        rw [e] at hx hz2
        cases hx
        cases hz2
        simp only [tSeq, tIfS, tOr, tAnd, tB, tTest, tCB, tCons, tVar, tC, tNil, tNot, tNotV, tRet, tRetN, tNext, tBreak, tOrV, tAndV, tOp, tUn, rEq, rNe, tChain, rI0, rI, rU, tAsg, gName, tDrop, tAug, ipI, tIf, tCall, tCallS, tLst, tTup, tBM, tBM0, rAppend, rExtend, rPop, rReverse, tyV, rIxL, rIxT, rIxS, rIsB, rNotB, L2.start, List.map_cons, List.map_nil, List.length_cons, List.length_nil, List.replicate, List.cons_append, List.nil_append, List.append_nil, List.getElem?_cons_zero, List.getElem?_cons_succ, List.set_cons_zero, List.set_cons_succ, Nat.reduceAdd, Nat.reduceSub, Option.some.injEq, exists_eq_left', exists_eq_left, V.int.injEq, V.bl.injEq, V.str.injEq, V.ref.injEq, List.cons.injEq, and_true, true_and, and_assoc, reduceCtorEq, false_and, exists_false, or_false, false_or, exists_and_left, exists_const, scal, Int.reduceLT, Int.reduceLE, Int.reduceSub, Int.reduceAdd, Int.reduceNeg, if_true, if_false, wipe]
        exact ⟨by decide, _, at_lt3 v, go _ (Same.refl _)⟩
    · intro D H' hD s' hD2
      refine ⟨D, rfl, (sl.map lt3).map fun i => wS [i], .inl (SqL.of hD2), ?_, ?_⟩
      · rw [sum_wS]
        have h2 : ((sl.map lt3).map fun i => wS [i]).length * ("" : Str).length = 0 := Nat.mul_zero _
        rw [List.length_map]
        omega
      · rw [join_wS]
        exact q (sl.map lt3) H' (by rw [List.length_map]; omega) ((s1.trans (FK.same_new hp)).trans s')

end
end K35

namespace K35
open PySem PySem.Spec PyProof.Rows L2 Cox
section
variable {P : Program} {w : World} {K : PySem.W.Frag} {mg : Str → Option Value} {base : Heap} {cx : Xs}
theorem zl : ∀ n : Nat, n ≤ 2000 → n ≤ sizeLine := fun n h => Nat.le_trans h (by decide)
theorem zw {u : W} (h : u.length ≤ 2000) : (wS u).length ≤ sizeLine := by rw [wS_len]; exact zl _ h

theorem okOrders_of {a b c : Nat} (ha : okOrd a) (hb : okOrd b) (hc : okOrd c) : okOrders [(a : Int), (b : Int), (c : Int)] = true := by
  have one : ∀ {n : Nat}, okOrd n → okOrder (n : Int) = true := fun {n} h => by
    unfold okOrder
    simp only [Bool.or_eq_true, Bool.and_eq_true, decide_eq_true_eq]
    rcases h with h | h <;> omega
  unfold okOrders
  simp [one ha, one hb, one hc]

theorem nfw_congr {a b c : Nat} (ha : okOrd a) (hb : okOrd b) (hc : okOrd c) {u v : W} (hu : u.length ≤ 500) (hv : v.length ≤ 500) (h : Eqv (om a b c) u v) : nfw a b c u = nfw a b c v := by
  have h1 := nfw_ok ha hb hc (w := u) (by omega)
  have h2 := nfw_ok ha hb hc (w := v) (by omega)
  have e : (nfw a b c u).length = (nfw a b c v).length := by rw [h1.2.2.1, h2.2.2.1, ln_eqv h]
  exact lx_antisymm e (h1.2.2.2 _ h2.2.1 (h.trans h2.1)) (h2.2.2.2 _ h1.2.1 (h.symm.trans h1.1))
/-- the letters of three orders, with what is known of them -/
structure Og (K : PySem.W.Frag) (H : Hp) (o : Addr) (a b c : Nat) : Prop where
  ob : H o = some (.tup [.int (a : Int), .int (b : Int), .int (c : Int)])
  ha : okOrd a
  hb : okOrd b
  hc : okOrd c
theorem Og.same {H H' : Hp} {o : Addr} {a b c : Nat} (h : Og K H o a b c) (s : Same H H') : Og K H' o a b c := ⟨s _ _ h.ob, h.ha, h.hb, h.hc⟩
theorem Og.ok {H : Hp} {o : Addr} {a b c : Nat} (h : Og K H o a b c) : okOrders [(a : Int), (b : Int), (c : Int)] = true := okOrders_of h.ha h.hb h.hc
theorem inj3 {a b c a' b' c' : Nat} (h : [(a : Int), (b : Int), (c : Int)] = [(a' : Int), (b' : Int), (c' : Int)]) : a = a' ∧ b = b' ∧ c = c' := by
  simp only [List.cons.injEq, and_true, Int.natCast_inj] at h
  exact h
theorem szw {u : W} (h : u.length ≤ 500) : (wS u).length < sizeLine := by rw [wS_len]; exact Nat.lt_of_le_of_lt h (by show 500 < 16777216; decide)
def spN1 (K : PySem.W.Frag) : Sp := fun vs H Q _ => ∃ (o : Addr) (a b c : Nat) (u : W), vs = [.ref o, .str (wS u)] ∧ Og K H o a b c ∧ u.length ≤ 60 ∧ ∀ H', Same H H' → Q (.str (wS (nfw a b c u))) H'
theorem imp_normal {C D : Addr} : ∀ vs H Q E, spN1 K vs H Q E → spNormal K C D vs H Q E := by
  rintro vs H Q E ⟨o, a, b, c, u, rfl, g, hu, q⟩
  refine ⟨o, _, wS u, rfl, (show SqT K H o (([(a : Int), (b : Int), (c : Int)] : List Int).map V.int) from SqT.of g.ob), szw (by omega), (fun e => by rw [g.ok] at e; cases e), (fun _ e => by rw [okWord_wS (by omega)] at e; cases e), fun _ _ a' b' c' w' H' e _ _ _ e2 _ s' => ?_⟩
  obtain ⟨rfl, rfl, rfl⟩ := inj3 e
  rw [← wS_inj e2]
  exact q H' s'

theorem walk_nat {n : Nat} : Walk (Itr 0 n) n (fun _ => True) (YFn fun i => .int (i : Nat)) := by
  have e : (fun i : Nat => V.int (0 + (i : Nat))) = fun i : Nat => V.int (i : Nat) := by
    funext i
    rw [Int.zero_add]
  rw [← e]
  exact walk_range
theorem at_wS {w : W} {k : Nat} {i : Fin 3} (h : w[k]? = some i) : atI (wS w).cps.toList ((k : Nat) : Int) = some (48 + i.1) := by
  refine atI_nat ?_
  rw [wS_list, List.getElem?_map, h]
  rfl

def spCkLet (C : Addr) : Sp := fun vs H Q E => ∃ x : Str, vs = [.str x] ∧ (isLet x = false → ∀ H', Same H H' → E (.ref C) none H') ∧ (isLet x = true → ∀ H', Same H H' → Q .non H')
theorem ok_check_letter (T : Txt K mg cx) : FK.Has P w K mg base (L2.CX P w) 4 "check_letter" ["text"] (spCkLet cx.NotWord) := by
  have H_is_letter := ok_is_letter (P := P) (w := w) (base := base) T
  refine T.d_check_letter.okX sc_check_letter (fun vs H Q E h => ?_) (fun f cdv A outer s H vs Q E hr h => ?_)
  · obtain ⟨l, rfl, _⟩ := h
    rfl
  · obtain ⟨l, rfl, qE, q⟩ := h
    refine ⟨_, (pss_one (ps_if (pt_not (pt_val (FK.pe_h (E := E0) H_is_letter (hr.mono (by decide)) pass0 (pa_cons (pv 0) pa_nil)))) (pss_one (ps_raise rfl (takes_of rfl rfl rfl rfl) (pmk_own PySem.F.excBase_ValueError T.x_NotWord.x T.x_NotWord.g T.x_NotWord.k (raises_own T.x_NotWord.b T.x_NotWord.t) (by exact rfl)))) pss_nil)), ?_⟩
    simp only [tSeq, tIfS, tOr, tAnd, tB, tTest, tCB, tCons, tVar, tC, tNil, tNot, tNotV, tRet, tRetN, tNext, tBreak, tOrV, tAndV, tOp, tUn, rEq, rNe, tChain, rI0, rI, rU, tAsg, gName, tDrop, tAug, ipI, tIf, tCall, tCallS, tLst, tTup, tBM, tBM0, rAppend, rExtend, rPop, rReverse, tyV, rIxL, rIxT, rIxS, rIsB, rNotB, L2.start, List.map_cons, List.map_nil, List.length_cons, List.length_nil, List.replicate, List.cons_append, List.nil_append, List.append_nil, List.getElem?_cons_zero, List.getElem?_cons_succ, List.set_cons_zero, List.set_cons_succ, Nat.reduceAdd, Nat.reduceSub, Option.some.injEq, exists_eq_left', exists_eq_left, V.int.injEq, V.bl.injEq, V.str.injEq, V.ref.injEq, List.cons.injEq, and_true, true_and, and_assoc, reduceCtorEq, false_and, exists_false, or_false, false_or, exists_and_left, exists_const, scal, Int.reduceLT, Int.reduceLE, Int.reduceSub, Int.reduceAdd, Int.reduceNeg, if_true, if_false]
    refine ⟨_, rfl, fun H' s' => ⟨_, rfl, ?_⟩⟩
    cases e : isLet l with
    | true => exact iteF (q e H' s')
    | false => exact iteT (qE e H' s')
theorem isLet_ex {x : Str} (h : isLet x = true) : ∃ l : Fin 3, x = wS [l] := by
  unfold isLet inV at h
  have h2 : ("0" : Str) = x ∨ ("1" : Str) = x ∨ ("2" : Str) = x := by simpa [eqV] using h
  rcases h2 with h | h | h
  · exact ⟨0, by rw [← h]; rfl⟩
  · exact ⟨1, by rw [← h]; rfl⟩
  · exact ⟨2, by rw [← h]; rfl⟩
theorem isLet_wS (l : Fin 3) : isLet (wS [l]) = true := by
  rcases three l with rfl | rfl | rfl <;> decide +kernel

def spFirstRoot (K : PySem.W.Frag) : Sp := fun vs H Q _ => ∃ (sc : Addr) (a b c s : Nat) (l : Fin 3), vs = [.ref sc, .str (wS [l])] ∧ ScAt K H sc a b c (bitsOf s) ∧ s < 8 ∧
  ∀ p H', Same H H' → H p = none → H' p = some (.tup (v3i fun k => if k = l then TT s else 0)) → Q (.ref p) H'
theorem ok_first_root (T : Txt K mg cx) : FK.Has P w K mg base CX0 1 "first_root" ["scale", "letter"] (spFirstRoot K) := by
  refine T.d_first_root.ok sc_first_root (fun vs H Q E h => ?_) (fun f cdv A outer s H vs Q E hr h => ?_)
  · obtain ⟨o, a, b, c, s, l, rfl, _⟩ := h
    rfl
  · obtain ⟨o, a, b, c, s, l, rfl, ⟨bt, h1, h2⟩, hs, q⟩ := h
    refine ⟨_, (pss_cons (ps_set (i := 2) sc_first_root.nd rfl (Or.inr rfl) (by exact (pe_op op_shlN pe_int (pe_ix (r := rIxT K) ix_tup (pv 0) pe_int (fun _ _ => rfl)))))
  (pss_one (ps_ret (pe_callTy call_tuple_of (by rfl) T.n_tuple (by decide +kernel) (pa_cons (pe_lc (own := [("other", 3)]) (g := gName 3) (tt := tYes) rfl sc_first_root.nd (pi_str (pe_glob (v := .str "012") rfl T.c_LETTERS ⟨_, rfl⟩)) (blkOk_by (own := [("other", 3)]) (N := ["scale", "letter", "one", "other"]) (sc := defScope s_first_root) (by decide +kernel)) (fun _ _ _ _ _ => (pg_name (i := 3) sc_first_root.nd rfl (Or.inl rfl))) (fun _ _ _ _ _ => pts_nil) (fun _ _ _ _ _ => (pe_ifExp (pt_cmpR op_eq (pv 1) (pv 3) (nomark _)) (pv 2) pe_int))) pa_nil))))), ?_⟩
    simp only [tSeq, tIfS, tOr, tAnd, tB, tTest, tCB, tCons, tVar, tC, tNil, tNot, tNotV, tRet, tRetN, tNext, tBreak, tOrV, tAndV, tOp, tUn, rEq, rNe, tChain, rI0, rI, rU, tAsg, gName, tDrop, tAug, ipI, tIf, tCall, tCallS, tLst, tTup, tBM, tBM0, rAppend, rExtend, rPop, rReverse, tyV, rIxL, rIxT, rIxS, rIsB, rNotB, L2.start, List.map_cons, List.map_nil, List.length_cons, List.length_nil, List.replicate, List.cons_append, List.nil_append, List.append_nil, List.getElem?_cons_zero, List.getElem?_cons_succ, List.set_cons_zero, List.set_cons_succ, Nat.reduceAdd, Nat.reduceSub, Option.some.injEq, exists_eq_left', exists_eq_left, V.int.injEq, V.bl.injEq, V.str.injEq, V.ref.injEq, List.cons.injEq, and_true, true_and, and_assoc, reduceCtorEq, false_and, exists_false, or_false, false_or, exists_and_left, exists_const, scal, Int.reduceLT, Int.reduceLE, Int.reduceSub, Int.reduceAdd, Int.reduceNeg, if_true, if_false]
    refine ⟨_, SqT.of h1, _, rfl, bitsOf s, rfl, cshl (x := 1) (k := 1) (by decide) (by omega) (by unfold bitsOf; omega), ?_⟩
    rw [show (1 : Int) * 2 ^ bitsOf s = TT s by rw [Int.one_mul, TT_pow]]
    refine FK.rd_lc_pure (J := Its "012") (H1 := H) (v3i fun k => if k = l then TT s else 0) (fun R r => ⟨"012", rfl, r⟩) (show Walk (Its "012") 3 _ _ from (show ("012" : Str).cps.size = 3 by decide +kernel) ▸ walk_str (z := "012")) (fun _ _ _ => trivial) (by show 3 < 16777216; decide) (fun _ => rfl) ?_ ?_ ?_
    · rintro D j x z H' H'' R hD hz rfl ⟨rfl, ch, hc, rfl⟩ r
      obtain ⟨i, ei, ez⟩ : ∃ i : Fin 3, (⟨#[ch]⟩ : Str) = wS [i] ∧ z = .int (if i = l then TT s else 0) := by
        match j, hc, hz with
        | 0, hc, hz => cases hc; cases hz; exact ⟨0, rfl, rfl⟩
        | 1, hc, hz => cases hc; cases hz; exact ⟨1, rfl, rfl⟩
        | 2, hc, hz => cases hc; cases hz; exact ⟨2, rfl, rfl⟩
        | _ + 3, _, hz => simp [v3i] at hz
      rw [ei]
      subst ez
      simp only [tSeq, tIfS, tOr, tAnd, tB, tTest, tCB, tCons, tVar, tC, tNil, tNot, tNotV, tRet, tRetN, tNext, tBreak, tOrV, tAndV, tOp, tUn, rEq, rNe, tChain, rI0, rI, rU, tAsg, gName, tDrop, tAug, ipI, tIf, tCall, tCallS, tLst, tTup, tBM, tBM0, rAppend, rExtend, rPop, rReverse, tyV, rIxL, rIxT, rIxS, rIsB, rNotB, L2.start, List.map_cons, List.map_nil, List.length_cons, List.length_nil, List.replicate, List.cons_append, List.nil_append, List.append_nil, List.getElem?_cons_zero, List.getElem?_cons_succ, List.set_cons_zero, List.set_cons_succ, Nat.reduceAdd, Nat.reduceSub, Option.some.injEq, exists_eq_left', exists_eq_left, V.int.injEq, V.bl.injEq, V.str.injEq, V.ref.injEq, List.cons.injEq, and_true, true_and, and_assoc, reduceCtorEq, false_and, exists_false, or_false, false_or, exists_and_left, exists_const, scal, Int.reduceLT, Int.reduceLE, Int.reduceSub, Int.reduceAdd, Int.reduceNeg, if_true, if_false, wipe]
      by_cases c : i = l
      · subst c
        rw [if_pos rfl] at r
        exact iteT' (by simp) r
      · rw [if_neg c] at r
        refine iteF' (fun z' => c ?_) r
        have e2 := wS_inj (of_decide_eq_true z')
        injection e2 with e3 _
        exact e3.symm
    · intro D hD
      refine ⟨D, rfl, _, .inl ⟨SqL.of upd_same, fun p hp => q p _ ((FK.same_new hD).trans (FK.same_new hp)) ?_ upd_same⟩⟩
      exact back (FK.same_new hD) hp
    · rintro j H' x H'' ⟨rfl, _⟩
      rfl
theorem act_0 (x y z t : Int) (D : Fin 3 → Int) : ([.int ((x * D 1 + z * D 2) / t - D 0), .int (D 1), .int (D 2)] : List V) = v3i (actI (tri 0 x y z) t 0 D) := rfl
theorem act_1 (x y z t : Int) (D : Fin 3 → Int) : ([.int (D 0), .int ((x * D 0 + y * D 2) / t - D 1), .int (D 2)] : List V) = v3i (actI (tri 0 x y z) t 1 D) := rfl
theorem act_2 (x y z t : Int) (D : Fin 3 → Int) : ([.int (D 0), .int (D 1), .int ((z * D 0 + y * D 1) / t - D 2)] : List V) = v3i (actI (tri 0 x y z) t 2 D) := rfl
def spRootBehind (K : PySem.W.Frag) : Sp := fun vs H Q _ => ∃ (sc dp : Addr) (a b c s : Nat) (D : Fin 3 → Int) (i : Fin 3), vs = [.ref sc, .ref dp, .str (wS [i])] ∧ ScAt K H sc a b c (bitsOf s) ∧ s < 8 ∧ okOrd a ∧ okOrd b ∧ okOrd c ∧
  H dp = some (.tup (v3i D)) ∧ (∀ j, Sm (D j)) ∧ ∀ p H', Same H H' → H p = none → H' p = some (.tup (v3i (actI (bendT a b c (bitsOf s)) (TT s) i D))) → Q (.ref p) H'
theorem ok_root_behind (T : Txt K mg cx) : FK.Has P w K mg base CX0 1 "root_behind" ["scale", "root", "letter"] (spRootBehind K) := by
  refine T.d_root_behind.ok sc_root_behind (fun vs H Q E h => ?_) (fun f cdv A outer s H vs Q E hr h => ?_)
  · obtain ⟨sc, dp, a, b, c, s, D, i, rfl, _⟩ := h
    rfl
  · obtain ⟨sc, dp, a, b, c, s, D, i, rfl, ⟨bt, h1, h2⟩, hs, ha, hb, hc, hD, hl, q⟩ := h
    refine ⟨_, (pss_cons (ps_asg (pv 0) (pg_tup rfl (pgs_cons (pg_name (i := 3) sc_root_behind.nd rfl (Or.inl rfl)) (pgs_cons (pg_tup rfl (pgs_cons (pg_name (i := 7) sc_root_behind.nd rfl (Or.inl rfl)) (pgs_cons (pg_name (i := 8) sc_root_behind.nd rfl (Or.inl rfl)) (pgs_cons (pg_name (i := 9) sc_root_behind.nd rfl (Or.inl rfl)) pgs_nil)))) pgs_nil))))
  (pss_cons (ps_asg (pv 1) (pg_tup rfl (pgs_cons (pg_name (i := 4) sc_root_behind.nd rfl (Or.inl rfl)) (pgs_cons (pg_name (i := 5) sc_root_behind.nd rfl (Or.inl rfl)) (pgs_cons (pg_name (i := 6) sc_root_behind.nd rfl (Or.inl rfl)) pgs_nil)))))
  (pss_cons (ps_if (pt_cmpR op_eq (pv 2) pe_str (nomark _)) (pss_one (ps_ret (pe_tup (pa_cons (pe_op op_sub (pe_op op_shrN (pe_op op_add (pe_op op_mulW (pv 7) (pv 5)) (pe_op op_mulW (pv 9) (pv 6))) (pv 3)) (pv 4)) (pa_cons (pv 5) (pa_cons (pv 6) pa_nil)))))) pss_nil)
  (pss_cons (ps_if (pt_cmpR op_eq (pv 2) pe_str (nomark _)) (pss_one (ps_ret (pe_tup (pa_cons (pv 4) (pa_cons (pe_op op_sub (pe_op op_shrN (pe_op op_add (pe_op op_mulW (pv 7) (pv 4)) (pe_op op_mulW (pv 8) (pv 6))) (pv 3)) (pv 5)) (pa_cons (pv 6) pa_nil)))))) pss_nil)
  (pss_one (ps_ret (pe_tup (pa_cons (pv 4) (pa_cons (pv 5) (pa_cons (pe_op op_sub (pe_op op_shrN (pe_op op_add (pe_op op_mulW (pv 9) (pv 4)) (pe_op op_mulW (pv 8) (pv 5))) (pv 3)) (pv 6)) pa_nil)))))))))), ?_⟩
    simp only [tSeq, tIfS, tOr, tAnd, tB, tTest, tCB, tCons, tVar, tC, tNil, tNot, tNotV, tRet, tRetN, tNext, tBreak, tOrV, tAndV, tOp, tUn, rEq, rNe, tChain, rI0, rI, rU, tAsg, gName, tDrop, tAug, ipI, tIf, tCall, tCallS, tLst, tTup, tBM, tBM0, rAppend, rExtend, rPop, rReverse, tyV, rIxL, rIxT, rIxS, rIsB, rNotB, L2.start, List.map_cons, List.map_nil, List.length_cons, List.length_nil, List.replicate, List.cons_append, List.nil_append, List.append_nil, List.getElem?_cons_zero, List.getElem?_cons_succ, List.set_cons_zero, List.set_cons_succ, Nat.reduceAdd, Nat.reduceSub, Option.some.injEq, exists_eq_left', exists_eq_left, V.int.injEq, V.bl.injEq, V.str.injEq, V.ref.injEq, List.cons.injEq, and_true, true_and, and_assoc, reduceCtorEq, false_and, exists_false, or_false, false_or, exists_and_left, exists_const, scal, Int.reduceLT, Int.reduceLE, Int.reduceSub, Int.reduceAdd, Int.reduceNeg, if_true, if_false]
    refine ⟨sc, _, rfl, SqT.of h1, rfl, _, _, rfl, _, _, rfl, bt, _, rfl, SqT.of h2, rfl, _, _, rfl, _, _, rfl, _, _, rfl, rfl, rfl, ?_⟩
    simp only [tSeq, tIfS, tOr, tAnd, tB, tTest, tCB, tCons, tVar, tC, tNil, tNot, tNotV, tRet, tRetN, tNext, tBreak, tOrV, tAndV, tOp, tUn, rEq, rNe, tChain, rI0, rI, rU, tAsg, gName, tDrop, tAug, ipI, tIf, tCall, tCallS, tLst, tTup, tBM, tBM0, rAppend, rExtend, rPop, rReverse, tyV, rIxL, rIxT, rIxS, rIsB, rNotB, L2.start, List.map_cons, List.map_nil, List.length_cons, List.length_nil, List.replicate, List.cons_append, List.nil_append, List.append_nil, List.getElem?_cons_zero, List.getElem?_cons_succ, List.set_cons_zero, List.set_cons_succ, Nat.reduceAdd, Nat.reduceSub, Option.some.injEq, exists_eq_left', exists_eq_left, V.int.injEq, V.bl.injEq, V.str.injEq, V.ref.injEq, List.cons.injEq, and_true, true_and, and_assoc, reduceCtorEq, false_and, exists_false, or_false, false_or, exists_and_left, exists_const, scal, Int.reduceLT, Int.reduceLE, Int.reduceSub, Int.reduceAdd, Int.reduceNeg, if_true, if_false]
    refine ⟨dp, _, rfl, SqT.of hD, rfl, _, _, rfl, _, _, rfl, _, _, rfl, rfl, ?_⟩
    simp only [tSeq, tIfS, tOr, tAnd, tB, tTest, tCB, tCons, tVar, tC, tNil, tNot, tNotV, tRet, tRetN, tNext, tBreak, tOrV, tAndV, tOp, tUn, rEq, rNe, tChain, rI0, rI, rU, tAsg, gName, tDrop, tAug, ipI, tIf, tCall, tCallS, tLst, tTup, tBM, tBM0, rAppend, rExtend, rPop, rReverse, tyV, rIxL, rIxT, rIxS, rIsB, rNotB, L2.start, List.map_cons, List.map_nil, List.length_cons, List.length_nil, List.replicate, List.cons_append, List.nil_append, List.append_nil, List.getElem?_cons_zero, List.getElem?_cons_succ, List.set_cons_zero, List.set_cons_succ, Nat.reduceAdd, Nat.reduceSub, Option.some.injEq, exists_eq_left', exists_eq_left, V.int.injEq, V.bl.injEq, V.str.injEq, V.ref.injEq, List.cons.injEq, and_true, true_and, and_assoc, reduceCtorEq, false_and, exists_false, or_false, false_or, exists_and_left, exists_const, scal, Int.reduceLT, Int.reduceLE, Int.reduceSub, Int.reduceAdd, Int.reduceNeg, if_true, if_false]
    have sa := bend_small hs ha
    have sb := bend_small hs hb
    have sc' := bend_small hs hc
    rcases let3 i with ⟨e, rfl⟩ | ⟨e, rfl⟩ | ⟨e, rfl⟩
    · rw [e]
      refine iteT' (by decide +kernel) ⟨mulOk sa (hl 1), mulOk sc' (hl 2), bitsOf s, rfl, by decide, fun p hp => q p _ (FK.same_new hp) hp ?_⟩
      rw [upd_same, TT_pow]
      exact congrArg (fun l => some (HO.tup l)) (act_0 _ (bendF b (bitsOf s)) _ _ D)
    · rw [e]
      refine iteF' (by decide +kernel) (iteT' (by decide +kernel) ⟨mulOk sa (hl 0), mulOk sb (hl 2), bitsOf s, rfl, by decide, fun p hp => q p _ (FK.same_new hp) hp ?_⟩)
      rw [upd_same, TT_pow]
      exact congrArg (fun l => some (HO.tup l)) (act_1 _ _ (bendF c (bitsOf s)) _ D)
    · rw [e]
      refine iteF' (by decide +kernel) (iteF' (by decide +kernel) ⟨mulOk sc' (hl 0), mulOk sb (hl 1), bitsOf s, rfl, by decide, fun p hp => q p _ (FK.same_new hp) hp ?_⟩)
      rw [upd_same, TT_pow]
      exact congrArg (fun l => some (HO.tup l)) (act_2 (bendF a (bitsOf s)) _ _ _ D)
theorem two_abs {T M : Nat} (hT : 0 < T) {b1 b2 d1 d2 d : Int} (h1 : b1.natAbs ≤ 2 * T) (h2 : b2.natAbs ≤ 2 * T) (e1 : d1.natAbs ≤ M) (e2 : d2.natAbs ≤ M) (e : d.natAbs ≤ M) : ((b1 * d1 + b2 * d2) / (T : Int) - d).natAbs ≤ 8 * M := by
  have p1 : (b1 * d1).natAbs ≤ 2 * T * M := by rw [Int.natAbs_mul]; exact Nat.mul_le_mul h1 e1
  have p2 : (b2 * d2).natAbs ≤ 2 * T * M := by rw [Int.natAbs_mul]; exact Nat.mul_le_mul h2 e2
  have ez : ((2 * T * M : Nat) : Int) * 2 = (4 * (M : Int)) * (T : Int) := by
    rw [show 2 * T * M = 2 * (M * T) by rw [Nat.mul_assoc, Nat.mul_comm T M]]
    rw [Int.mul_assoc, ← Int.natCast_mul]
    omega
  have hT' : (0 : Int) < (T : Int) := by omega
  have lo : -(4 * (M : Int)) ≤ (b1 * d1 + b2 * d2) / (T : Int) := Int.le_ediv_of_mul_le hT' (by rw [Int.neg_mul]; omega)
  have hi : (b1 * d1 + b2 * d2) / (T : Int) ≤ 4 * (M : Int) := Int.ediv_le_of_le_mul hT' (by omega)
  omega
theorem root_abs {B : Fin 3 → Fin 3 → Int} {T : Nat} (hT : 0 < T) (hB : ∀ i j, i ≠ j → (B i j).natAbs ≤ 2 * T) (l : Fin 3) : ∀ (u : W) (j : Fin 3), (rootI B (T : Int) u l j).natAbs ≤ T * 8 ^ u.length
  | [], j => by
    show (if j = l then (T : Int) else 0).natAbs ≤ T * 8 ^ 0
    split <;> omega
  | i :: u, j => by
    have ih := root_abs hT hB l u
    have e : T * 8 ^ (i :: u).length = 8 * (T * 8 ^ u.length) := by
      rw [List.length_cons, Nat.pow_succ, Nat.mul_comm _ 8, ← Nat.mul_assoc, Nat.mul_comm T 8, Nat.mul_assoc]
    rw [e]
    show (actI B (T : Int) i (rootI B (T : Int) u l) j).natAbs ≤ _
    unfold actI
    split
    · rename_i c
      subst c
      unfold othI
      rcases three j with rfl | rfl | rfl
      · exact two_abs hT (hB 0 1 (by decide)) (hB 0 2 (by decide)) (ih 1) (ih 2) (ih 0)
      · exact two_abs hT (hB 1 0 (by decide)) (hB 1 2 (by decide)) (ih 0) (ih 2) (ih 1)
      · exact two_abs hT (hB 2 0 (by decide)) (hB 2 1 (by decide)) (ih 0) (ih 1) (ih 2)
    · have := ih j
      omega
/-- the last place whose rest has a root with a negative sum -/
def placeN (B : Fin 3 → Fin 3 → Int) (t : Int) (u : W) (l : Fin 3) : Nat → Int
  | 0 => -1
  | k + 1 => if sumI (rootI B t (u.drop k) l) < 0 then (k : Int) else placeN B t u l k
def place (B : Fin 3 → Fin 3 → Int) (t : Int) (u : W) (l : Fin 3) : Int := placeN B t u l u.length
def spPlace (K : PySem.W.Frag) : Sp := fun vs H Q _ => ∃ (sc : Addr) (a b c s : Nat) (u : W) (l : Fin 3), vs = [.ref sc, .str (wS u), .str (wS [l])] ∧ ScAt K H sc a b c (bitsOf s) ∧ s < 8 ∧ okOrd a ∧ okOrd b ∧ okOrd c ∧ u.length ≤ 100 ∧
  ∀ H', Same H H' → Q (.int (place (bendT a b c (bitsOf s)) (TT s) u l)) H'
theorem rootI_small {a b c s : Nat} (hs : s < 8) (ha : okOrd a) (hb : okOrd b) (hc : okOrd c) {u : W} (l : Fin 3) (hu : u.length ≤ 100) (j : Fin 3) : Sm (rootI (bendT a b c (bitsOf s)) (TT s) u l j) := by
  have h := root_abs (B := bendT a b c (bitsOf s)) (T := 2 ^ bitsOf s) (Nat.pow_pos (by decide)) (tri_abs (bend_abs hs ha) (bend_abs hs hb) (bend_abs hs hc)) l u j
  refine ⟨bitsOf s + 3 * u.length + 1, by unfold bitsOf; omega, by omega, ?_⟩
  have e : 2 ^ (bitsOf s + 3 * u.length + 1) = 2 * (2 ^ bitsOf s * 8 ^ u.length) := by
    rw [Nat.pow_succ, Nat.pow_add, Nat.pow_mul]
    rw [Nat.mul_comm]
  have p : 0 < 2 ^ bitsOf s * 8 ^ u.length := Nat.mul_pos (Nat.pow_pos (by decide)) (Nat.pow_pos (by decide))
  rw [e]
  show (rootI (bendT a b c (bitsOf s)) ((2 ^ bitsOf s : Nat) : Int) u l j).natAbs < _
  generalize 2 ^ bitsOf s * 8 ^ u.length = t at h p ⊢
  omega
theorem ok_place_crossing (T : Txt K mg cx) : FK.Has P w K mg base CX0 2 "place_crossing" ["scale", "word", "letter"] (spPlace K) := by
  have H_first_root := ok_first_root (P := P) (w := w) (base := base) T
  have H_root_behind := ok_root_behind (P := P) (w := w) (base := base) T
  refine T.d_place_crossing.ok sc_place_crossing (fun vs H Q E h => ?_) (fun f cdv A outer s H vs Q E hr h => ?_)
  · obtain ⟨sc, a, b, c, s, u, l, rfl, _⟩ := h
    rfl
  · obtain ⟨sc, a, b, c, s, u, l, rfl, hsc, hs, ha, hb, hc, hu, q⟩ := h
    refine ⟨_, (pss_cons (ps_set (i := 3) sc_place_crossing.nd rfl (Or.inl rfl) (by exact (FK.pe_h (E := E0) H_first_root (hr.mono (by decide)) pass0 (pa_cons (pv 0) (pa_cons (pv 2) pa_nil)))))
  (pss_cons (ps_for PassesOwn.never rfl (pi_range3 (by rfl) T.n_range (pa_cons (pe_op op_sub (pe_callB call_len_str (by rfl) T.n_len PySem.boot_len (pa_cons (pv 1) pa_nil)) pe_int) (pa_cons (pe_un un_neg pe_int) (pa_cons (pe_un un_neg pe_int) pa_nil)))) (pg_name (i := 4) sc_place_crossing.nd rfl (Or.inl rfl))
  (pss_cons (ps_set (i := 3) sc_place_crossing.nd rfl (Or.inl rfl) (by exact (FK.pe_h (E := E0) H_root_behind (hr.mono (by decide)) pass0 (pa_cons (pv 0) (pa_cons (pv 3) (pa_cons (pe_ix ix_str (pv 1) (pv 4) (fun _ _ => rfl)) pa_nil))))))
  (pss_one (ps_if (pt_cmpR op_lt (pe_callB (FK.cr_sumT rfl) (by rfl) T.n_sum (by decide +kernel) (pa_cons (pv 3) pa_nil)) pe_int (nomark _)) (pss_one (ps_ret (pv 4))) pss_nil))))
  (pss_one (ps_ret (pe_un un_neg pe_int))))), ?_⟩
    simp only [tSeq, tIfS, tOr, tAnd, tB, tTest, tCB, tCons, tVar, tC, tNil, tNot, tNotV, tRet, tRetN, tNext, tBreak, tOrV, tAndV, tOp, tUn, rEq, rNe, tChain, rI0, rI, rU, tAsg, gName, tDrop, tAug, ipI, tIf, tCall, tCallS, tLst, tTup, tBM, tBM0, rAppend, rExtend, rPop, rReverse, tyV, rIxL, rIxT, rIxS, rIsB, rNotB, L2.start, List.map_cons, List.map_nil, List.length_cons, List.length_nil, List.replicate, List.cons_append, List.nil_append, List.append_nil, List.getElem?_cons_zero, List.getElem?_cons_succ, List.set_cons_zero, List.set_cons_succ, Nat.reduceAdd, Nat.reduceSub, Option.some.injEq, exists_eq_left', exists_eq_left, V.int.injEq, V.bl.injEq, V.str.injEq, V.ref.injEq, List.cons.injEq, and_true, true_and, and_assoc, reduceCtorEq, false_and, exists_false, or_false, false_or, exists_and_left, exists_const, scal, Int.reduceLT, Int.reduceLE, Int.reduceSub, Int.reduceAdd, Int.reduceNeg, if_true, if_false]
    refine ⟨sc, a, b, c, s, l, rfl, hsc, hs, fun p0 H0 s0 hp0 e0 => ?_⟩
    simp only [tSeq, tIfS, tOr, tAnd, tB, tTest, tCB, tCons, tVar, tC, tNil, tNot, tNotV, tRet, tRetN, tNext, tBreak, tOrV, tAndV, tOp, tUn, rEq, rNe, tChain, rI0, rI, rU, tAsg, gName, tDrop, tAug, ipI, tIf, tCall, tCallS, tLst, tTup, tBM, tBM0, rAppend, rExtend, rPop, rReverse, tyV, rIxL, rIxT, rIxS, rIsB, rNotB, L2.start, List.map_cons, List.map_nil, List.length_cons, List.length_nil, List.replicate, List.cons_append, List.nil_append, List.append_nil, List.getElem?_cons_zero, List.getElem?_cons_succ, List.set_cons_zero, List.set_cons_succ, Nat.reduceAdd, Nat.reduceSub, Option.some.injEq, exists_eq_left', exists_eq_left, V.int.injEq, V.bl.injEq, V.str.injEq, V.ref.injEq, List.cons.injEq, and_true, true_and, and_assoc, reduceCtorEq, false_and, exists_false, or_false, false_or, exists_and_left, exists_const, scal, Int.reduceLT, Int.reduceLE, Int.reduceSub, Int.reduceAdd, Int.reduceNeg, if_true, if_false]
    have eu : (wS u).length = u.length := wS_len u
    obtain ⟨n, hn⟩ : ∃ n, n = u.length := ⟨_, rfl⟩
    refine FK.rd_for (J := Itc ((n : Int) - 1) (-1) n) (H1 := H0) (fun R r => by
        simp only [tSeq, tIfS, tOr, tAnd, tB, tTest, tCB, tCons, tVar, tC, tNil, tNot, tNotV, tRet, tRetN, tNext, tBreak, tOrV, tAndV, tOp, tUn, rEq, rNe, tChain, rI0, rI, rU, tAsg, gName, tDrop, tAug, ipI, tIf, tCall, tCallS, tLst, tTup, tBM, tBM0, rAppend, rExtend, rPop, rReverse, tyV, rIxL, rIxT, rIxS, rIsB, rNotB, L2.start, List.map_cons, List.map_nil, List.length_cons, List.length_nil, List.replicate, List.cons_append, List.nil_append, List.append_nil, List.getElem?_cons_zero, List.getElem?_cons_succ, List.set_cons_zero, List.set_cons_succ, Nat.reduceAdd, Nat.reduceSub, Option.some.injEq, exists_eq_left', exists_eq_left, V.int.injEq, V.bl.injEq, V.str.injEq, V.ref.injEq, List.cons.injEq, and_true, true_and, and_assoc, reduceCtorEq, false_and, exists_false, or_false, false_or, exists_and_left, exists_const, scal, Int.reduceLT, Int.reduceLE, Int.reduceSub, Int.reduceAdd, Int.reduceNeg, if_true, if_false, iRng3]
        have g := RgC.neg (i := (n : Int) - 1) (j := -1) (by omega) (by omega) (by omega) (by omega)
        rw [show ((n : Int) - 1 - -1).toNat = n by omega] at g
        exact ⟨zw (by omega), n, by rw [eu, ← hn]; exact g, by rw [eu, ← hn]; exact r⟩) walk_rangeC
      (fun i σ H' => ∃ (p : Addr) (v4 : Option V), σ = [some (.ref sc), some (.str (wS u)), some (.str (wS [l])), some (.ref p), v4] ∧ Same H H' ∧ H' p = some (.tup (v3i (rootI (bendT a b c (bitsOf s)) (TT s) (u.drop (n - i)) l))) ∧ place (bendT a b c (bitsOf s)) (TT s) u l = placeN (bendT a b c (bitsOf s)) (TT s) u l (n - i))
      ⟨p0, none, rfl, s0, by rw [Nat.sub_zero, hn, List.drop_length]; exact e0, by rw [Nat.sub_zero, hn]; rfl⟩ (fun _ _ _ _ _ => trivial) ?_ ?_
    · rintro i x' σ H1 H2 hi ⟨p, v4, rfl, s1, e1, ep⟩ ⟨rfl, hx⟩
      obtain ⟨k, hk⟩ : ∃ k, n - i = k + 1 := ⟨n - i - 1, by omega⟩
      have ex : x' = .int (k : Int) := by
        rw [hx]
        exact congrArg V.int (by omega)
      subst ex
      have hku : k < u.length := by omega
      have ej : u[k]? = some (u[k]'hku) := List.getElem?_eq_getElem hku
      have ed : u.drop k = u[k]'hku :: u.drop (k + 1) := List.drop_eq_getElem_cons hku
      rw [hk] at e1 ep
      simp only [tSeq, tIfS, tOr, tAnd, tB, tTest, tCB, tCons, tVar, tC, tNil, tNot, tNotV, tRet, tRetN, tNext, tBreak, tOrV, tAndV, tOp, tUn, rEq, rNe, tChain, rI0, rI, rU, tAsg, gName, tDrop, tAug, ipI, tIf, tCall, tCallS, tLst, tTup, tBM, tBM0, rAppend, rExtend, rPop, rReverse, tyV, rIxL, rIxT, rIxS, rIsB, rNotB, L2.start, List.map_cons, List.map_nil, List.length_cons, List.length_nil, List.replicate, List.cons_append, List.nil_append, List.append_nil, List.getElem?_cons_zero, List.getElem?_cons_succ, List.set_cons_zero, List.set_cons_succ, Nat.reduceAdd, Nat.reduceSub, Option.some.injEq, exists_eq_left', exists_eq_left, V.int.injEq, V.bl.injEq, V.str.injEq, V.ref.injEq, List.cons.injEq, and_true, true_and, and_assoc, reduceCtorEq, false_and, exists_false, or_false, false_or, exists_and_left, exists_const, scal, Int.reduceLT, Int.reduceLE, Int.reduceSub, Int.reduceAdd, Int.reduceNeg, if_true, if_false]
      refine ⟨zw (by omega), _, at_wS ej, ?_⟩
      rw [show (⟨#[48 + (u[k]'hku).1]⟩ : Str) = wS [u[k]'hku] from rfl]
      refine ⟨sc, p, a, b, c, s, _, u[k]'hku, rfl, hsc.same s1, hs, ha, hb, hc, e1, fun j => rootI_small hs ha hb hc l (by rw [List.length_drop]; omega) j, fun p2 H3 s3 hp2 e3 => ?_⟩
      have e4 : actI (bendT a b c (bitsOf s)) (TT s) (u[k]'hku) (rootI (bendT a b c (bitsOf s)) (TT s) (u.drop (k + 1)) l) = rootI (bendT a b c (bitsOf s)) (TT s) (u.drop k) l := by rw [ed]; rfl
      rw [e4] at e3
      generalize hD : rootI (bendT a b c (bitsOf s)) (TT s) (u.drop k) l = D at e3
      refine ⟨p2, [D 0, D 1, D 2], rfl, SqT.of e3, ?_⟩
      have es : ([D 0, D 1, D 2] : List Int).sum = sumI D := by
        unfold sumI
        simp
        omega
      rw [es]
      have ep2 : place (bendT a b c (bitsOf s)) (TT s) u l = if sumI D < 0 then (k : Int) else placeN (bendT a b c (bitsOf s)) (TT s) u l k := by
        rw [ep, ← hD]
        rfl
      by_cases c0 : sumI D < 0
      · rw [if_pos c0] at ep2
        rw [ep2] at q
        exact ⟨_, rfl, iteT' (decide_eq_true c0) (q H3 (s1.trans s3))⟩
      · rw [if_neg c0] at ep2
        exact ⟨_, rfl, iteF' (fun z => c0 (of_decide_eq_true z)) ⟨p2, rfl, s1.trans s3, by rw [show n - (i + 1) = k by omega, hD]; exact e3, by rw [show n - (i + 1) = k by omega]; exact ep2⟩⟩
    · rintro σ H1 ⟨p, v4, rfl, s1, e1, ep⟩
      simp only [tSeq, tIfS, tOr, tAnd, tB, tTest, tCB, tCons, tVar, tC, tNil, tNot, tNotV, tRet, tRetN, tNext, tBreak, tOrV, tAndV, tOp, tUn, rEq, rNe, tChain, rI0, rI, rU, tAsg, gName, tDrop, tAug, ipI, tIf, tCall, tCallS, tLst, tTup, tBM, tBM0, rAppend, rExtend, rPop, rReverse, tyV, rIxL, rIxT, rIxS, rIsB, rNotB, L2.start, List.map_cons, List.map_nil, List.length_cons, List.length_nil, List.replicate, List.cons_append, List.nil_append, List.append_nil, List.getElem?_cons_zero, List.getElem?_cons_succ, List.set_cons_zero, List.set_cons_succ, Nat.reduceAdd, Nat.reduceSub, Option.some.injEq, exists_eq_left', exists_eq_left, V.int.injEq, V.bl.injEq, V.str.injEq, V.ref.injEq, List.cons.injEq, and_true, true_and, and_assoc, reduceCtorEq, false_and, exists_false, or_false, false_or, exists_and_left, exists_const, scal, Int.reduceLT, Int.reduceLE, Int.reduceSub, Int.reduceAdd, Int.reduceNeg, if_true, if_false]
      rw [Nat.sub_self] at ep
      rw [ep] at q
      exact q H1 s1
theorem TT_288 : TT 0 = (2 : Int) ^ 288 := by rw [← TT_pow]; rfl
/-- the place that the program tells is the one that is left out -/
theorem place_left {a b c : Nat} (ha : okOrd a) (hb : okOrd b) (hc : okOrd c) {u : W} {l : Fin 3} (hu : u.length ≤ 64) (r : Red (om a b c) u) (hl : ln (om a b c) u = ln (om a b c) (u ++ [l]) + 1) : ∃ k : Nat, place (bendT a b c (bitsOf 0)) (TT 0) u l = (k : Int) ∧ k < u.length ∧ Eqv (om a b c) (u ++ [l]) (u.take k ++ u.drop (k + 1)) := by
  have F := fits_at (s := 0) ha hb hc (by decide)
  have sg : ∀ k, k ≤ u.length → (ln (om a b c) (u.drop k ++ [l]) = ln (om a b c) (u.drop k) + 1 → 0 < sumI (rootI (bendT a b c (bitsOf 0)) (TT 0) (u.drop k) l)) ∧ (ln (om a b c) (u.drop k) = ln (om a b c) (u.drop k ++ [l]) + 1 → sumI (rootI (bendT a b c (bitsOf 0)) (TT 0) (u.drop k) l) < 0) := fun k hk =>
    rsigns F (L := 64) (fun j hj => by rw [TT_288]; exact room5 j hj) (by rw [List.length_drop]; omega) l
  have go : ∀ n, n ≤ u.length → (n = u.length ∨ 0 < sumI (rootI (bendT a b c (bitsOf 0)) (TT 0) (u.drop n) l)) → (∃ k, k < n ∧ sumI (rootI (bendT a b c (bitsOf 0)) (TT 0) (u.drop k) l) < 0) → ∃ k : Nat, placeN (bendT a b c (bitsOf 0)) (TT 0) u l n = (k : Int) ∧ k < u.length ∧ sumI (rootI (bendT a b c (bitsOf 0)) (TT 0) (u.drop k) l) < 0 ∧ (k + 1 = u.length ∨ 0 < sumI (rootI (bendT a b c (bitsOf 0)) (TT 0) (u.drop (k + 1)) l)) := by
    intro n
    induction n with
    | zero =>
      rintro _ _ ⟨k, hk, _⟩
      omega
    | succ n ih =>
      rintro h1 h2 ⟨k, hk, hn⟩
      by_cases c0 : sumI (rootI (bendT a b c (bitsOf 0)) (TT 0) (u.drop n) l) < 0
      · exact ⟨n, by unfold placeN; rw [if_pos c0], by omega, c0, h2⟩
      · have pos : 0 < sumI (rootI (bendT a b c (bitsOf 0)) (TT 0) (u.drop n) l) := by
          have s1 := sg n (by omega)
          have s2 := ln_snoc (m := om a b c) (u.drop n) l
          rcases s2 with s2 | s2
          · exact s1.1 s2
          · exact absurd (s1.2 s2) c0
        have kn : k < n := by
          rcases Nat.lt_or_ge k n with h | h
          · exact h
          · obtain rfl : k = n := by omega
            exact absurd hn c0
        obtain ⟨k', e, h⟩ := ih (by omega) (.inr pos) ⟨k, kn, hn⟩
        exact ⟨k', by unfold placeN; rw [if_neg c0]; exact e, h⟩
  have u0 : 0 < u.length := by
    cases u with
    | nil =>
      have h1 := ln_self (m := om a b c) []
      rw [List.length_nil] at h1
      omega
    | cons _ _ => simp
  obtain ⟨k, e, hk, h1, h2⟩ := go u.length (Nat.le_refl _) (.inl rfl) ⟨0, u0, (sg 0 (by omega)).2 hl⟩
  refine ⟨k, e, hk, left_place r hk ?_ ?_⟩
  · have s1 := sg k (by omega)
    rcases ln_snoc (m := om a b c) (u.drop k) l with s2 | s2
    · have := s1.1 s2; omega
    · exact s2
  · have s2 := ln_snoc (m := om a b c) (u.drop (k + 1)) l
    rcases h2 with h2 | h2
    · rw [List.drop_of_length_le (by omega)] at s2 ⊢
      have h3 := ln_self (m := om a b c) []
      rw [List.length_nil] at h3
      omega
    · have s1 := sg (k + 1) (by omega)
      rcases s2 with s2 | s2
      · exact s2
      · have := s1.2 s2; omega
def spLeftF (K : PySem.W.Frag) (C : Addr) : Sp := fun vs H Q _ => ∃ (f o d : Addr) (a b c : Nat) (u : W) (l : Fin 3), vs = [.ref f, .str (wS u), .str (wS [l])] ∧ FlAt K C H f o d a b c ∧ u.length ≤ 64 ∧
  ∀ H', FlAt K C H' f o d a b c → FK.But d H H' → Q (.int (place (bendT a b c (bitsOf 0)) (TT 0) u l)) H'
theorem ok_Floor_left_out (T : Txt K mg cx) : FK.MHas P w K mg base CX0 5 cx.Floor "left_out" ["self", "word", "letter"] (spLeftF K cx.Floor) := by
  have H_Floor_scale := ok_Floor_scale (P := P) (w := w) (base := base) T
  have H_place_crossing := ok_place_crossing (P := P) (w := w) (base := base) T
  refine T.d_Floor_left_out.ok sc_Floor_left_out (fun vs H Q E h => ?_) (fun f cdv A outer s H vs Q E hr h => ?_)
  · obtain ⟨f, o, d, a, b, c, u, l, rfl, _⟩ := h
    rfl
  · obtain ⟨f, o, d, a, b, c, u, l, rfl, F, hu, q⟩ := h
    obtain ⟨dx, h1⟩ := F.ob
    refine ⟨_, (pss_one (ps_ret (FK.pe_h (E := E0) H_place_crossing (hr.mono (by decide)) pass0 (pa_cons (FK.pe_m (E := E0) (pv 0) T.cl_Floor H_Floor_scale (hr.mono (by decide)) pass0 (pa_cons (pe_callB call_len_str (by rfl) T.n_len PySem.boot_len (pa_cons (pv 1) pa_nil)) pa_nil)) (pa_cons (pv 1) (pa_cons (pv 2) pa_nil)))))), ?_⟩
    simp only [tSeq, tIfS, tOr, tAnd, tB, tTest, tCB, tCons, tVar, tC, tNil, tNot, tNotV, tRet, tRetN, tNext, tBreak, tOrV, tAndV, tOp, tUn, rEq, rNe, tChain, rI0, rI, rU, tAsg, gName, tDrop, tAug, ipI, tIf, tCall, tCallS, tLst, tTup, tBM, tBM0, rAppend, rExtend, rPop, rReverse, tyV, rIxL, rIxT, rIxS, rIsB, rNotB, L2.start, List.map_cons, List.map_nil, List.length_cons, List.length_nil, List.replicate, List.cons_append, List.nil_append, List.append_nil, List.getElem?_cons_zero, List.getElem?_cons_succ, List.set_cons_zero, List.set_cons_succ, Nat.reduceAdd, Nat.reduceSub, Option.some.injEq, exists_eq_left', exists_eq_left, V.int.injEq, V.bl.injEq, V.str.injEq, V.ref.injEq, List.cons.injEq, and_true, true_and, and_assoc, reduceCtorEq, false_and, exists_false, or_false, false_or, exists_and_left, exists_const, scal, Int.reduceLT, Int.reduceLE, Int.reduceSub, Int.reduceAdd, Int.reduceNeg, if_true, if_false, tMeth]
    have ez : (wS u).length = u.length := wS_len u
    refine ⟨dx, _, h1, fldsF_no _ _ (by decide +kernel) (by decide +kernel), zw (by omega), f, o, d, a, b, c, u.length, by rw [ez], F, by omega, fun sc H1 F1 b1 hsc => ?_⟩
    rw [show u.length / 128 = 0 by omega] at hsc
    exact ⟨sc, a, b, c, 0, u, l, rfl, hsc, by decide, F.ha, F.hb, F.hc, by omega, fun H2 s2 => q H2 (F1.same s2) (b1.trans (.of s2))⟩

theorem cut_one (u : W) (k : Nat) : cutS (wS u) none (some (k : Int)) ++ cutS (wS u) (some ((k : Int) + 1)) none = wS (u.take k ++ u.drop (k + 1)) := by
  rw [cut_to, show ((k : Int) + 1) = ((k + 1 : Nat) : Int) by omega, cut_from, wS_app]
def spBelow (K : PySem.W.Frag) (C : Addr) : Sp := fun vs H Q _ => ∃ (f o d : Addr) (a b c : Nat) (u : W) (l : Fin 3), vs = [.ref f, .str (wS u), .str (wS [l])] ∧ FlAt K C H f o d a b c ∧ u.length ≤ 64 ∧ Red (om a b c) u ∧ ln (om a b c) u = ln (om a b c) (u ++ [l]) + 1 ∧
  ∀ (k : Nat) H', k < u.length → Eqv (om a b c) (u ++ [l]) (u.take k ++ u.drop (k + 1)) → FlAt K C H' f o d a b c → FK.But d H H' → Q (.str (wS (u.take k ++ u.drop (k + 1)))) H'
theorem ok_Floor_below (T : Txt K mg cx) : FK.MHas P w K mg base CX0 6 cx.Floor "below" ["self", "tile", "letter"] (spBelow K cx.Floor) := by
  have H_Floor_left_out := ok_Floor_left_out (P := P) (w := w) (mg := mg) (base := base) T
  refine T.d_Floor_below.ok sc_Floor_below (fun vs H Q E h => ?_) (fun f cdv A outer s H vs Q E hr h => ?_)
  · obtain ⟨f, o, d, a, b, c, u, l, rfl, _⟩ := h
    rfl
  · obtain ⟨f, o, d, a, b, c, u, l, rfl, F, hu, r, hl, q⟩ := h
    obtain ⟨dx, h1⟩ := F.ob
    refine ⟨_, (pss_cons (ps_set (i := 3) sc_Floor_below.nd rfl (Or.inl rfl) (by exact (FK.pe_m (E := E0) (pv 0) T.cl_Floor H_Floor_left_out (hr.mono (by decide)) pass0 (pa_cons (pv 1) (pa_cons (pv 2) pa_nil)))))
  (pss_one (ps_ret (pe_op op_add_str (pe_slice sl_str (pv 1) po_none (po_some (pv 3))) (pe_slice sl_str (pv 1) (po_some (pe_op op_add (pv 3) pe_int)) po_none))))), ?_⟩
    simp only [tSeq, tIfS, tOr, tAnd, tB, tTest, tCB, tCons, tVar, tC, tNil, tNot, tNotV, tRet, tRetN, tNext, tBreak, tOrV, tAndV, tOp, tUn, rEq, rNe, tChain, rI0, rI, rU, tAsg, gName, tDrop, tAug, ipI, tIf, tCall, tCallS, tLst, tTup, tBM, tBM0, rAppend, rExtend, rPop, rReverse, tyV, rIxL, rIxT, rIxS, rIsB, rNotB, L2.start, List.map_cons, List.map_nil, List.length_cons, List.length_nil, List.replicate, List.cons_append, List.nil_append, List.append_nil, List.getElem?_cons_zero, List.getElem?_cons_succ, List.set_cons_zero, List.set_cons_succ, Nat.reduceAdd, Nat.reduceSub, Option.some.injEq, exists_eq_left', exists_eq_left, V.int.injEq, V.bl.injEq, V.str.injEq, V.ref.injEq, List.cons.injEq, and_true, true_and, and_assoc, reduceCtorEq, false_and, exists_false, or_false, false_or, exists_and_left, exists_const, scal, Int.reduceLT, Int.reduceLE, Int.reduceSub, Int.reduceAdd, Int.reduceNeg, if_true, if_false, tMeth, tSl, tNoPart, tPart, rSlS]
    refine ⟨dx, _, h1, fldsF_no _ _ (by decide +kernel) (by decide +kernel), f, o, d, a, b, c, u, l, rfl, F, hu, fun H1 F1 b1 => ?_⟩
    obtain ⟨k, ek, hk, e⟩ := place_left F.ha F.hb F.hc hu r hl
    rw [ek]
    have l1 : (wS u).length ≤ sizeLine := zw (by omega)
    refine ⟨_, rfl, l1, _, rfl, l1, ?_⟩
    rw [cut_one]
    exact ⟨by rw [cut_to, show ((k : Int) + 1) = ((k + 1 : Nat) : Int) by omega, cut_from, wS_len, wS_len, List.length_take, List.length_drop]; exact zl _ (by omega), q k H1 hk e F1 b1⟩

def spWayB (K : PySem.W.Frag) (C : Addr) : Sp := fun vs H Q _ => ∃ (f o d : Addr) (a b c : Nat) (u v : W), vs = [.ref f, .str (wS u), .str (wS v)] ∧ FlAt K C H f o d a b c ∧ u.length + v.length ≤ 400 ∧
  ∀ H', FlAt K C H' f o d a b c → FK.But d H H' → Q (.str (wS (nfw a b c (u.reverse ++ v)))) H'
theorem ok_way_between (T : Txt K mg cx) : FK.Has P w K mg base CX0 6 "way_between" ["floor", "one", "other"] (spWayB K cx.Floor) := by
  have H_Floor_normal := ok_Floor_normal (P := P) (w := w) (mg := mg) (base := base) T
  refine T.d_way_between.ok sc_way_between (fun vs H Q E h => ?_) (fun f cdv A outer s H vs Q E hr h => ?_)
  · obtain ⟨f, o, d, a, b, c, u, v, rfl, _⟩ := h
    rfl
  · obtain ⟨f, o, d, a, b, c, u, v, rfl, F, hl, q⟩ := h
    refine ⟨_, (pss_one (ps_ret (FK.pe_m (E := E0) (pv 0) T.cl_Floor H_Floor_normal (hr.mono (by decide)) pass0 (pa_cons (pe_op op_add_str (FK.pe_revS (pv 1)) (pv 2)) pa_nil)))), ?_⟩
    simp only [tSeq, tIfS, tOr, tAnd, tB, tTest, tCB, tCons, tVar, tC, tNil, tNot, tNotV, tRet, tRetN, tNext, tBreak, tOrV, tAndV, tOp, tUn, rEq, rNe, tChain, rI0, rI, rU, tAsg, gName, tDrop, tAug, ipI, tIf, tCall, tCallS, tLst, tTup, tBM, tBM0, rAppend, rExtend, rPop, rReverse, tyV, rIxL, rIxT, rIxS, rIsB, rNotB, L2.start, List.map_cons, List.map_nil, List.length_cons, List.length_nil, List.replicate, List.cons_append, List.nil_append, List.append_nil, List.getElem?_cons_zero, List.getElem?_cons_succ, List.set_cons_zero, List.set_cons_succ, Nat.reduceAdd, Nat.reduceSub, Option.some.injEq, exists_eq_left', exists_eq_left, V.int.injEq, V.bl.injEq, V.str.injEq, V.ref.injEq, List.cons.injEq, and_true, true_and, and_assoc, reduceCtorEq, false_and, exists_false, or_false, false_or, exists_and_left, exists_const, scal, Int.reduceLT, Int.reduceLE, Int.reduceSub, Int.reduceAdd, Int.reduceNeg, if_true, if_false, tMeth, FK.tRevS]
    obtain ⟨dx, e1⟩ := F.ob
    refine ⟨dx, _, e1, fldsF_no _ _ (by decide +kernel) (by decide +kernel), zw (by omega), ?_⟩
    rw [wS_rev, wS_app]
    exact ⟨by rw [wS_len, wS_len]; exact zl _ (by rw [List.length_reverse]; omega), f, o, d, a, b, c, u.reverse ++ v, rfl, F, by rw [List.length_append, List.length_reverse]; omega, fun H5 F5 b5 => q H5 F5 b5⟩

theorem FlAt.ned {C : Addr} {H : Hp} {f o d p : Addr} {a b c : Nat} (h : FlAt K C H f o d a b c) (hp : H p = none) : p ≠ d := by
  obtain ⟨_, _, _, _, _, k2, f3, _⟩ := h
  exact fun q => by rw [q, f3] at hp; cases hp
theorem FlAt.nel {C : Addr} {H : Hp} {f o d p : Addr} {a b c : Nat} {l : List V} (h : FlAt K C H f o d a b c) (hp : H p = some (.lst l)) : p ≠ d := by
  obtain ⟨_, _, _, _, _, k2, f3, _⟩ := h
  exact fun q => by rw [q, f3] at hp; cases hp
/-- a list beside a floor changes -/
theorem FlAt.fr {C : Addr} {H H' : Hp} {f o d D : Addr} {a b c : Nat} {acc : List V} (h : FlAt K C H f o d a b c) (hD : H D = some (.lst acc)) (fr : ∀ b u, H b = some u → b ≠ D → H' b = some u) : FlAt K C H' f o d a b c := by
  have nd := h.nel hD
  have tup : ∀ {p : Addr} {l : List V}, H p = some (.tup l) → H' p = some (.tup l) := fun {p l} e => fr p _ e (fun q => by rw [q, hD] at e; cases e)
  have frz : ∀ {p : Addr} {ob : Obj} {u : HO}, H p = some (.frz ob u) → H' p = some (.frz ob u) := fun {p ob u} e => fr p _ e (fun q => by rw [q, hD] at e; cases e)
  obtain ⟨⟨dx2, f1⟩, f2, fa, fb, fc, k2, f3, f4, f5⟩ := h
  refine ⟨⟨dx2, fr _ _ f1 (fun q => by rw [q, hD] at f1; cases f1)⟩, ?_, fa, fb, fc, k2, fr _ _ f3 nd.symm, f4, fun kv hm => ?_⟩
  · rcases f2 with (f2 | ⟨ob, f2⟩) | f2
    · exact .inl (.inl (tup f2))
    · exact .inl (.inr ⟨ob, frz f2⟩)
    · exact .inr f2
  · obtain ⟨s', p, a1, a2, bt, b1, b2⟩ := f5 kv hm
    exact ⟨s', p, a1, a2, bt, tup b1, tup b2⟩

theorem strOk_wS (u : W) : PyData.strOk (wS u) = true := by
  unfold PyData.strOk
  rw [← Array.all_toList, wS_list, List.all_map, List.all_eq_true]
  intro i _
  have h := i.2
  exact decide_eq_true (show 48 + i.1 < 0x110000 by omega)
theorem map_wS_inj : ∀ {us vs : List W}, us.map wS = vs.map wS → us = vs
  | [], [], _ => rfl
  | [], _ :: _, h => by cases h
  | _ :: _, [], h => by cases h
  | u :: us, v :: vs, h => by
    rw [List.map_cons, List.map_cons] at h
    injection h with h1 h2
    rw [wS_inj h1, map_wS_inj h2]
theorem dec_wS (us vs : List W) : decide (us.map wS = vs.map wS) = decide (us = vs) := decide_eq_decide.2 ⟨map_wS_inj, fun h => by rw [h]⟩
theorem neD_words {H : Hp} {a b : Addr} {us vs : List W} {Q : VK} (ha : SqL K H a ((us.map wS).map V.str)) (hb : SqL K H b ((vs.map wS).map V.str)) (q : Q (.bl (!decide (us = vs))) H) : rNeD K (.ref a) (.ref b) H Q := by
  refine FK.neD_strs ha hb (fun x hx => ?_) (fun x hx => ?_) ?_
  · obtain ⟨u, _, rfl⟩ := List.mem_map.mp hx
    exact strOk_wS u
  · obtain ⟨u, _, rfl⟩ := List.mem_map.mp hx
    exact strOk_wS u
  · rw [dec_wS]
    exact q
theorem eqD_words {H : Hp} {a b : Addr} {us vs : List W} {Q : VK} (ha : SqL K H a ((us.map wS).map V.str)) (hb : SqL K H b ((vs.map wS).map V.str)) (q : Q (.bl (decide (us = vs))) H) : rEqD K (.ref a) (.ref b) H Q := by
  refine FK.eqD_strs ha hb (fun x hx => ?_) (fun x hx => ?_) ?_
  · obtain ⟨u, _, rfl⟩ := List.mem_map.mp hx
    exact strOk_wS u
  · obtain ⟨u, _, rfl⟩ := List.mem_map.mp hx
    exact strOk_wS u
  · rw [dec_wS]
    exact q

theorem inV_wS (w : W) (ws : List W) : inV (.str (wS w)) ((ws.map wS).map V.str) = decide (w ∈ ws) := by
  unfold inV
  rw [Bool.eq_iff_iff, decide_eq_true_iff, List.map_map, List.any_map, List.any_eq_true]
  constructor
  · rintro ⟨x, hx, e⟩
    have e2 : wS x = wS w := by
      have e3 : eqV (V.str (wS x)) (V.str (wS w)) = true := e
      unfold eqV at e3
      simpa using e3
    rw [← wS_inj e2]
    exact hx
  · intro h
    refine ⟨w, h, ?_⟩
    show eqV (V.str (wS w)) (V.str (wS w)) = true
    unfold eqV
    simp
theorem flat_words (ws : List W) : ((ws.map wS).map V.str).all flatV = true := by
  rw [List.all_eq_true]
  intro x hx
  obtain ⟨y, _, rfl⟩ := List.mem_map.mp hx
  rfl

def spCheckWords (K : PySem.W.Frag) (C : Addr) : Sp := fun vs H Q E => ∃ (a : Addr) (xs : List Str), vs = [.ref a] ∧ SqL K H a (xs.map V.str) ∧ (∀ x ∈ xs, x.length < sizeLine) ∧ (xs.all (fun x => okWord x 60) = false → ∀ H', Same H H' → E (.ref C) none H') ∧ (xs.all (fun x => okWord x 60) = true → ∀ H', Same H H' → Q .non H')
theorem ok_check_words (T : Txt K mg cx) : FK.Has P w K mg base (L2.CX P w) 6 "check_words" ["words"] (spCheckWords K cx.NotWord) := by
  have H_check_word := ok_check_word (P := P) (w := w) (base := base) T
  refine T.d_check_words.okX sc_check_words (fun vs H Q E h => ?_) (fun f cdv A outer s H vs Q E hr h => ?_)
  · obtain ⟨a, xs, rfl, _⟩ := h
    rfl
  · obtain ⟨a, xs, rfl, hS, hx, qE, q⟩ := h
    refine ⟨_, (pss_one (ps_for (passes_of rfl) rfl (pi_list (pv 0)) (pg_name (i := 1) sc_check_words.nd rfl (Or.inl rfl))
  (pss_one (ps_expr (FK.pe_h (E := E) H_check_word (hr.mono (by decide)) (passes_call (takes_of rfl rfl rfl rfl) (fun _ _ _ _ h => h)) (pa_cons (pv 1) pa_nil)))))), ?_⟩
    simp only [tSeq, tIfS, tOr, tAnd, tB, tTest, tCB, tCons, tVar, tC, tNil, tNot, tNotV, tRet, tRetN, tNext, tBreak, tOrV, tAndV, tOp, tUn, rEq, rNe, tChain, rI0, rI, rU, tAsg, gName, tDrop, tAug, ipI, tIf, tCall, tCallS, tLst, tTup, tBM, tBM0, rAppend, rExtend, rPop, rReverse, tyV, rIxL, rIxT, rIxS, rIsB, rNotB, L2.start, List.map_cons, List.map_nil, List.length_cons, List.length_nil, List.replicate, List.cons_append, List.nil_append, List.append_nil, List.getElem?_cons_zero, List.getElem?_cons_succ, List.set_cons_zero, List.set_cons_succ, Nat.reduceAdd, Nat.reduceSub, Option.some.injEq, exists_eq_left', exists_eq_left, V.int.injEq, V.bl.injEq, V.str.injEq, V.ref.injEq, List.cons.injEq, and_true, true_and, and_assoc, reduceCtorEq, false_and, exists_false, or_false, false_or, exists_and_left, exists_const, scal, Int.reduceLT, Int.reduceLE, Int.reduceSub, Int.reduceAdd, Int.reduceNeg, if_true, if_false]
    refine FK.rd_for (J := Itl K a) (H1 := H) (fun R r => ⟨_, rfl, a, rfl, ⟨_, hS⟩, r⟩) (walk_list (xs := xs.map V.str))
      (fun i σ H' => ∃ v1 : Option V, σ = [some (.ref a), v1] ∧ Same H H' ∧ (xs.take i).all (fun x => okWord x 60) = true) ⟨none, rfl, Same.refl H, rfl⟩ (fun i σ H' _ ⟨_, _, s1, _⟩ => s1.seq hS) ?_ ?_
    · rintro i x σ H1 H2 hi ⟨v1, rfl, s1, hk⟩ ⟨rfl, hx1⟩
      rw [List.getElem?_map] at hx1
      cases e : xs[i]? with
      | none => rw [e] at hx1; cases hx1
      | some y =>
        rw [e] at hx1
        cases hx1
        simp only [tSeq, tIfS, tOr, tAnd, tB, tTest, tCB, tCons, tVar, tC, tNil, tNot, tNotV, tRet, tRetN, tNext, tBreak, tOrV, tAndV, tOp, tUn, rEq, rNe, tChain, rI0, rI, rU, tAsg, gName, tDrop, tAug, ipI, tIf, tCall, tCallS, tLst, tTup, tBM, tBM0, rAppend, rExtend, rPop, rReverse, tyV, rIxL, rIxT, rIxS, rIsB, rNotB, L2.start, List.map_cons, List.map_nil, List.length_cons, List.length_nil, List.replicate, List.cons_append, List.nil_append, List.append_nil, List.getElem?_cons_zero, List.getElem?_cons_succ, List.set_cons_zero, List.set_cons_succ, Nat.reduceAdd, Nat.reduceSub, Option.some.injEq, exists_eq_left', exists_eq_left, V.int.injEq, V.bl.injEq, V.str.injEq, V.ref.injEq, List.cons.injEq, and_true, true_and, and_assoc, reduceCtorEq, false_and, exists_false, or_false, false_or, exists_and_left, exists_const, scal, Int.reduceLT, Int.reduceLE, Int.reduceSub, Int.reduceAdd, Int.reduceNeg, if_true, if_false]
        have hm := List.mem_of_getElem? e
        refine ⟨y, rfl, hx y hm, fun e2 H3 s3 => qE ?_ H3 (s1.trans s3), fun e2 H3 s3 => ⟨s1.trans s3, ?_⟩⟩
        · rw [← Bool.not_eq_true, List.all_eq_true]
          intro h
          rw [h y hm] at e2
          cases e2
        · rw [List.take_add_one, e, List.all_append, hk]
          simpa using e2
    · rintro σ H1 ⟨v1, rfl, s1, hk⟩
      rw [List.length_map, List.take_length] at hk
      exact q hk H1 s1


end
end K35

namespace K35
open PySem PySem.Spec PyProof.Rows L2 Cox
section
variable {P : Program} {w : World} {K : PySem.W.Frag} {mg : Str → Option Value} {base : Heap} {cx : Xs}
theorem rd_lc_filterH {wi : TI} {i : Nat} {tt : L2.TT} {te : TE} {vs : List Nat} {σ : L2.St} {H H1 : Hp} {J : It} {G : Hp → Prop} {Q : VK} (xs : List V) (p : V → Bool) (f : V → V) (hw : ∀ R : It → Hp → Prop, R J H1 → wi σ H R) (w : Walk J xs.length G (YAt xs))
    (hG : ∀ D o, H1 D = none → G (upd H1 D o)) (hl : xs.length < sizeLine) (hv : ∀ x, wipe ((wipe σ vs).set i (some x)) vs = wipe σ vs)
    (ht : ∀ x D l (R : Bool → Hp → Prop), H1 D = none → x ∈ xs → R (p x) (upd H1 D (.lst l)) → tt ((wipe σ vs).set i (some x)) (upd H1 D (.lst l)) R)
    (hs : ∀ x D l (R : VK), H1 D = none → x ∈ xs → p x = true → R (f x) (upd H1 D (.lst l)) → te ((wipe σ vs).set i (some x)) (upd H1 D (.lst l)) R)
    (hd : ∀ D, H1 D = none → Q (.ref D) (upd H1 D (.lst ((xs.filter p).map f)))) : tLc wi (gName i) tt te vs σ H Q := by
  refine hw _ fun D hD => ?_
  refine lc_it w (fun j H' => H' = upd H1 D (.lst (((xs.take j).filter p).map f))) (by simp) (fun j H' hj e => by rw [e]; exact hG D _ hD) ?_ ?_
  · rintro j x H' H'' hj rfl ⟨rfl, hx⟩
    have hm : x ∈ xs := List.mem_of_getElem? hx
    have et : xs.take (j + 1) = xs.take j ++ [x] := by rw [List.take_add_one, hx]; rfl
    refine ⟨hv x, ht x D _ _ hD hm ?_⟩
    cases e : p x with
    | true =>
      refine iteT (hs x D _ _ hD hm e ⟨_, upd_same, ?_, ?_⟩)
      · rw [List.length_map]
        exact Nat.lt_of_le_of_lt (Nat.le_trans (List.length_filter_le _ _) (by rw [List.length_take]; exact Nat.min_le_right _ _)) hl
      · rw [upd_upd, et, List.filter_append, List.map_append]
        simp [e]
    | false =>
      refine iteF ?_
      rw [et, List.filter_append]
      simp [e]
  · rintro H' rfl
    rw [List.take_length]
    exact hd D hD

/-- the ends in a corner -/
def encw (a b c : Nat) (u : W) (i j : Fin 3) : W := (endw a b c u).filter fun l => decide (l = i ∨ l = j)
def enL (a b c : Nat) (u : W) (i j : Fin 3) : List W := (encw a b c u i j).map fun l => [l]
theorem inPair (l i j : Fin 3) : inV (.str (wS [l])) [.str (wS [i]), .str (wS [j])] = decide (l = i ∨ l = j) := by
  have h := inV_wS [l] [[i], [j]]
  rw [show (([[i], [j]] : List W).map wS).map V.str = [.str (wS [i]), .str (wS [j])] from rfl] at h
  rw [h]
  exact decide_eq_decide.2 (by simp)
theorem SqT.but {H H' : Hp} {e d : Addr} {xs : List V} (h : SqT K H e xs) (ne : e ≠ d) (b : FK.But d H H') : SqT K H' e xs := by
  rcases h with (h | ⟨ob, h⟩) | h
  · exact .inl (.inl (b _ _ ne h))
  · exact .inl (.inr ⟨ob, b _ _ ne h⟩)
  · exact .inr h
theorem strs_wS (w : W) : ((wS w).cps.toList.map fun c => V.str ⟨#[c]⟩) = w.map fun l => V.str (wS [l]) := by
  rw [wS_list, List.map_map]
  rfl
theorem lc_ends {C f o d e : Addr} {a b c : Nat} {u : W} {i j : Fin 3} {v3 : Option V} {H : Hp} {Q : VK} (F : FlAt K C H f o d a b c) (hS : SqT K H e [.str (wS [i]), .str (wS [j])]) (ned : e ≠ d) (hu : u.length ≤ 200)
    (q : ∀ L H', FlAt K C H' f o d a b c → FK.But d H H' → H L = none → H' L = some (.lst (((enL a b c u i j).map wS).map V.str)) → Q (.ref L) H') :
    tLc (iStr (tMeth C "ends" (spEndsF K C) [] E0 (tVar 0) (tCons (tVar 1) tNil))) (gName 4) (tTest (tOp (rIn K false) (tVar 4) (tVar 2))) (tVar 4) [4] [some (V.ref f), some (V.str (wS u)), some (V.ref e), v3, none] H Q := by
  refine FK.lc_str ?_
  simp only [tSeq, tIfS, tOr, tAnd, tB, tTest, tCB, tCons, tVar, tC, tNil, tNot, tNotV, tRet, tRetN, tNext, tBreak, tOrV, tAndV, tOp, tUn, rEq, rNe, tChain, rI0, rI, rU, tAsg, gName, tDrop, tAug, ipI, tIf, tCall, tCallS, tLst, tTup, tBM, tBM0, rAppend, rExtend, rPop, rReverse, tyV, rIxL, rIxT, rIxS, rIsB, rNotB, L2.start, List.map_cons, List.map_nil, List.length_cons, List.length_nil, List.replicate, List.cons_append, List.nil_append, List.append_nil, List.getElem?_cons_zero, List.getElem?_cons_succ, List.set_cons_zero, List.set_cons_succ, Nat.reduceAdd, Nat.reduceSub, Option.some.injEq, exists_eq_left', exists_eq_left, V.int.injEq, V.bl.injEq, V.str.injEq, V.ref.injEq, List.cons.injEq, and_true, true_and, and_assoc, reduceCtorEq, false_and, exists_false, or_false, false_or, exists_and_left, exists_const, scal, Int.reduceLT, Int.reduceLE, Int.reduceSub, Int.reduceAdd, Int.reduceNeg, if_true, if_false, tMeth]
  obtain ⟨dx, e1⟩ := F.ob
  refine ⟨dx, _, e1, fldsF_no _ _ (by decide +kernel) (by decide +kernel), f, o, d, a, b, c, u, rfl, F, by omega, fun H1 F1 b1 => ⟨_, rfl, ?_⟩⟩
  have hS1 := SqT.but hS ned b1
  have fin : ∀ D, H1 D = none → H D = none := fun D hD => by
    cases h : H D with
    | none => rfl
    | some v => rw [b1 D v (F1.ned hD) h] at hD; cases hD
  have ef : (((wS (endw a b c u)).cps.toList.map fun c => V.str ⟨#[c]⟩).filter fun x => inV x [.str (wS [i]), .str (wS [j])]).map id = ((enL a b c u i j).map wS).map V.str := by
    rw [List.map_id, strs_wS, List.filter_map]
    unfold enL encw
    rw [List.map_map, List.map_map]
    rw [List.filter_congr (p := (fun x => inV x [V.str (wS [i]), V.str (wS [j])]) ∘ fun l => V.str (wS [l])) (q := fun l => decide (l = i ∨ l = j)) fun x _ => inPair x i j]
    rfl
  have hm : ∀ x ∈ ((wS (endw a b c u)).cps.toList.map fun c => V.str ⟨#[c]⟩), ∃ l : Fin 3, x = .str (wS [l]) := fun x hx => by
    rw [strs_wS] at hx
    obtain ⟨l, _, rfl⟩ := List.mem_map.mp hx
    exact ⟨l, rfl⟩
  have l3 : (endw a b c u).length ≤ 3 := List.length_filter_le _ _
  refine rd_lc_filterH (J := Its (wS (endw a b c u))) (H1 := H1) ((wS (endw a b c u)).cps.toList.map fun c => V.str ⟨#[c]⟩) (fun x => inV x [.str (wS [i]), .str (wS [j])]) id (fun R r => r) FK.walk_strY (fun _ _ _ => trivial) (by
    rw [strs_wS, List.length_map]
    exact Nat.lt_of_le_of_lt l3 (by decide)) (fun _ => rfl) ?_ ?_ ?_
  · rintro x D l R hD hx r
    obtain ⟨l0, rfl⟩ := hm x hx
    simp only [tSeq, tIfS, tOr, tAnd, tB, tTest, tCB, tCons, tVar, tC, tNil, tNot, tNotV, tRet, tRetN, tNext, tBreak, tOrV, tAndV, tOp, tUn, rEq, rNe, tChain, rI0, rI, rU, tAsg, gName, tDrop, tAug, ipI, tIf, tCall, tCallS, tLst, tTup, tBM, tBM0, rAppend, rExtend, rPop, rReverse, tyV, rIxL, rIxT, rIxS, rIsB, rNotB, L2.start, List.map_cons, List.map_nil, List.length_cons, List.length_nil, List.replicate, List.cons_append, List.nil_append, List.append_nil, List.getElem?_cons_zero, List.getElem?_cons_succ, List.set_cons_zero, List.set_cons_succ, Nat.reduceAdd, Nat.reduceSub, Option.some.injEq, exists_eq_left', exists_eq_left, V.int.injEq, V.bl.injEq, V.str.injEq, V.ref.injEq, List.cons.injEq, and_true, true_and, and_assoc, reduceCtorEq, false_and, exists_false, or_false, false_or, exists_and_left, exists_const, scal, Int.reduceLT, Int.reduceLE, Int.reduceSub, Int.reduceAdd, Int.reduceNeg, if_true, if_false, wipe]
    exact ⟨_, _, rfl, .inr (FK.Same.tupS (FK.same_new hD) hS1), rfl, rfl, _, rfl, r⟩
  · rintro x D l R hD hx _ r
    simp only [tSeq, tIfS, tOr, tAnd, tB, tTest, tCB, tCons, tVar, tC, tNil, tNot, tNotV, tRet, tRetN, tNext, tBreak, tOrV, tAndV, tOp, tUn, rEq, rNe, tChain, rI0, rI, rU, tAsg, gName, tDrop, tAug, ipI, tIf, tCall, tCallS, tLst, tTup, tBM, tBM0, rAppend, rExtend, rPop, rReverse, tyV, rIxL, rIxT, rIxS, rIsB, rNotB, L2.start, List.map_cons, List.map_nil, List.length_cons, List.length_nil, List.replicate, List.cons_append, List.nil_append, List.append_nil, List.getElem?_cons_zero, List.getElem?_cons_succ, List.set_cons_zero, List.set_cons_succ, Nat.reduceAdd, Nat.reduceSub, Option.some.injEq, exists_eq_left', exists_eq_left, V.int.injEq, V.bl.injEq, V.str.injEq, V.ref.injEq, List.cons.injEq, and_true, true_and, and_assoc, reduceCtorEq, false_and, exists_false, or_false, false_or, exists_and_left, exists_const, scal, Int.reduceLT, Int.reduceLE, Int.reduceSub, Int.reduceAdd, Int.reduceNeg, if_true, if_false, wipe]
    exact r
  · intro D hD
    rw [ef]
    exact q D _ (F1.same (FK.same_new hD)) (fun b' u' hb e' => FK.same_new hD _ _ (b1 b' u' hb e')) (fin D hD) upd_same
def spShortA (K : PySem.W.Frag) (C : Addr) : Sp := fun vs H Q _ => ∃ (f o d e : Addr) (a b c : Nat) (u : W) (i j : Fin 3), vs = [.ref f, .str (wS u), .ref e] ∧ FlAt K C H f o d a b c ∧ e ≠ d ∧ SqT K H e [.str (wS [i]), .str (wS [j])] ∧ u.length ≤ 60 ∧ Red (om a b c) u ∧
  ∀ p H', Gt (om a b c) i j u p → p.length ≤ u.length → FlAt K C H' f o d a b c → FK.But d H H' → Q (.str (wS p)) H'
theorem ok_shortest_around (T : Txt K mg cx) : FK.Has P w K mg base CX0 7 "shortest_around" ["floor", "tile", "corner"] (spShortA K cx.Floor) := by
  have H_Floor_ends := ok_Floor_ends (P := P) (w := w) (mg := mg) (base := base) T
  have H_Floor_below := ok_Floor_below (P := P) (w := w) (mg := mg) (base := base) T
  refine T.d_shortest_around.ok sc_shortest_around (fun vs H Q E h => ?_) (fun f cdv A outer s H vs Q E hr h => ?_)
  · obtain ⟨f, o, d, e, a, b, c, u, i, j, rfl, _⟩ := h
    rfl
  · obtain ⟨f, o, d, e, a, b, c, u, i, j, rfl, F, ned, hS, hu, r, q⟩ := h
    refine ⟨_, (pss_cons (ps_setLc (i := 3) (own := [("letter", 4)]) (g := gName 4)  rfl sc_shortest_around.nd rfl rfl (sw_true rfl rfl rfl (by decide +kernel)) (pi_str (FK.pe_m (E := E0) (pv 0) T.cl_Floor H_Floor_ends (hr.mono (by decide)) pass0 (pa_cons (pv 1) pa_nil))) (blkOk_by (own := [("letter", 4)]) (N := ["floor", "tile", "corner", "ends", "letter"]) (sc := defScope s_shortest_around) (by decide +kernel)) (fun _ _ _ _ _ => (pg_name (i := 4) sc_shortest_around.nd rfl (Or.inl rfl))) (fun _ _ _ _ _ => (pts_one (pt_cmpR (show OpR _ (compareOp .In) (rIn K false) from op_in_seq) (pv 4) (pv 2) (by rfl)))) (fun _ _ _ _ _ => (pv 4)))
  (pss_cons (ps_while PassesOwn.never (pt_cmpR (op_neD hr.units) (pv 3) (pe_lst pa_nil) (nomark _)) (pss_cons (ps_set (i := 1) sc_shortest_around.nd rfl (Or.inl rfl) (by exact (FK.pe_m (E := E0) (pv 0) T.cl_Floor H_Floor_below (hr.mono (by decide)) pass0 (pa_cons (pv 1) (pa_cons (pe_ix (r := rIxL K) ix_list (pv 3) pe_int (fun _ _ => rfl)) pa_nil)))))
  (pss_one (ps_setLc (i := 3) (own := [("letter", 4)]) (g := gName 4)  rfl sc_shortest_around.nd rfl rfl (sw_true rfl rfl rfl (by decide +kernel)) (pi_str (FK.pe_m (E := E0) (pv 0) T.cl_Floor H_Floor_ends (hr.mono (by decide)) pass0 (pa_cons (pv 1) pa_nil))) (blkOk_by (own := [("letter", 4)]) (N := ["floor", "tile", "corner", "ends", "letter"]) (sc := defScope s_shortest_around) (by decide +kernel)) (fun _ _ _ _ _ => (pg_name (i := 4) sc_shortest_around.nd rfl (Or.inl rfl))) (fun _ _ _ _ _ => (pts_one (pt_cmpR (show OpR _ (compareOp .In) (rIn K false) from op_in_seq) (pv 4) (pv 2) (by rfl)))) (fun _ _ _ _ _ => (pv 4))))))
  (pss_one (ps_ret (pv 1))))), ?_⟩
    simp only [tSeq, tIfS, tOr, tAnd, tB, tTest, tCB, tCons, tVar, tC, tNil, tNot, tNotV, tRet, tRetN, tNext, tBreak, tOrV, tAndV, tOp, tUn, rEq, rNe, tChain, rI0, rI, rU, tAsg, gName, tDrop, tAug, ipI, tIf, tCall, tCallS, tLst, tTup, tBM, tBM0, rAppend, rExtend, rPop, rReverse, tyV, rIxL, rIxT, rIxS, rIsB, rNotB, L2.start, List.map_cons, List.map_nil, List.length_cons, List.length_nil, List.replicate, List.cons_append, List.nil_append, List.append_nil, List.getElem?_cons_zero, List.getElem?_cons_succ, List.set_cons_zero, List.set_cons_succ, Nat.reduceAdd, Nat.reduceSub, Option.some.injEq, exists_eq_left', exists_eq_left, V.int.injEq, V.bl.injEq, V.str.injEq, V.ref.injEq, List.cons.injEq, and_true, true_and, and_assoc, reduceCtorEq, false_and, exists_false, or_false, false_or, exists_and_left, exists_const, scal, Int.reduceLT, Int.reduceLE, Int.reduceSub, Int.reduceAdd, Int.reduceNeg, if_true, if_false, tMeth]
    refine lc_ends F hS ned (by omega) fun L H1 F1 b1 hL eL => ?_
    refine rd_while (fun m σ H' => ∃ (p : W) (L : Addr), σ = [some (.ref f), some (.str (wS p)), some (.ref e), some (.ref L), none] ∧ FlAt K cx.Floor H' f o d a b c ∧ FK.But d H H' ∧ H' L = some (.lst (((enL a b c p i j).map wS).map V.str)) ∧ Red (om a b c) p ∧ p.length ≤ m ∧
        p.length ≤ u.length ∧ ∃ x, Two i j x ∧ x.length + p.length = u.length ∧ Eqv (om a b c) u (p ++ x)) u.length
      ⟨u, L, rfl, F1, b1, eL, r, Nat.le_refl _, Nat.le_refl _, [], .nil, Nat.zero_add _, by rw [List.append_nil]; exact .refl _⟩ ?_ (fun σ H Q Q' hQ h => by
        simp only [tSeq, tIfS, tOr, tAnd, tB, tTest, tCB, tCons, tVar, tC, tNil, tNot, tNotV, tRet, tRetN, tNext, tBreak, tOrV, tAndV, tOp, tUn, rEq, rNe, tChain, rI0, rI, rU, tAsg, gName, tDrop, tAug, ipI, tIf, tCall, tCallS, tLst, tTup, tBM, tBM0, rAppend, rExtend, rPop, rReverse, tyV, rIxL, rIxT, rIxS, rIsB, rNotB, L2.start, List.map_cons, List.map_nil, List.length_cons, List.length_nil, List.replicate, List.cons_append, List.nil_append, List.append_nil, List.getElem?_cons_zero, List.getElem?_cons_succ, List.set_cons_zero, List.set_cons_succ, Nat.reduceAdd, Nat.reduceSub, Option.some.injEq, exists_eq_left', exists_eq_left, V.int.injEq, V.bl.injEq, V.str.injEq, V.ref.injEq, List.cons.injEq, and_true, true_and, and_assoc, reduceCtorEq, false_and, exists_false, or_false, false_or, exists_and_left, exists_const, scal, Int.reduceLT, Int.reduceLE, Int.reduceSub, Int.reduceAdd, Int.reduceNeg, if_true, if_false] at h ⊢
        obtain ⟨v, a1, a2, a3⟩ := h
        refine ⟨v, a1, a2, fun p hp => ?_⟩
        obtain ⟨d1, d2, c1, c2, c3, c4, k, c5, c6⟩ := a3 p hp
        exact ⟨d1, d2, c1, c2, c3, c4, k, c5, hQ _ _ c6⟩)
    rintro m σ H4 ⟨p, L2', rfl, F4, b4, eL4, rp, lm, lu, x, tx, lx, ex⟩
    simp only [tSeq, tIfS, tOr, tAnd, tB, tTest, tCB, tCons, tVar, tC, tNil, tNot, tNotV, tRet, tRetN, tNext, tBreak, tOrV, tAndV, tOp, tUn, rEq, rNe, tChain, rI0, rI, rU, tAsg, gName, tDrop, tAug, ipI, tIf, tCall, tCallS, tLst, tTup, tBM, tBM0, rAppend, rExtend, rPop, rReverse, tyV, rIxL, rIxT, rIxS, rIsB, rNotB, L2.start, List.map_cons, List.map_nil, List.length_cons, List.length_nil, List.replicate, List.cons_append, List.nil_append, List.append_nil, List.getElem?_cons_zero, List.getElem?_cons_succ, List.set_cons_zero, List.set_cons_succ, Nat.reduceAdd, Nat.reduceSub, Option.some.injEq, exists_eq_left', exists_eq_left, V.int.injEq, V.bl.injEq, V.str.injEq, V.ref.injEq, List.cons.injEq, and_true, true_and, and_assoc, reduceCtorEq, false_and, exists_false, or_false, false_or, exists_and_left, exists_const, scal, Int.reduceLT, Int.reduceLE, Int.reduceSub, Int.reduceAdd, Int.reduceNeg, if_true, if_false]
    refine ⟨Nat.zero_le _, fun p1 hp1 => neD_words (us := enL a b c p i j) (vs := []) (SqL.of (FK.same_new hp1 _ _ eL4)) (SqL.of upd_same) ⟨_, rfl, ?_⟩⟩
    have F5 := F4.same (FK.same_new (o := HO.lst []) hp1)
    have b5 : FK.But d H (upd H4 p1 (.lst [])) := fun b' u' hb e' => FK.same_new hp1 _ _ (b4 b' u' hb e')
    have mem : ∀ l, l ∈ encw a b c p i j ↔ (ln (om a b c) p = ln (om a b c) (p ++ [l]) + 1 ∧ (l = i ∨ l = j)) := fun l => by
      unfold encw
      rw [List.mem_filter, endw_ok F.ha F.hb F.hc (by omega), decide_eq_true_iff]
    cases ec : encw a b c p i j with
    | nil =>
      have en : enL a b c p i j = [] := by unfold enL; rw [ec]; rfl
      refine iteF' (by rw [en]; decide) ?_
      have no : ∀ l, (l = i ∨ l = j) → ln (om a b c) (p ++ [l]) = ln (om a b c) p + 1 := fun l hl => by
        rcases ln_snoc (m := om a b c) p l with h | h
        · exact h
        · have := (mem l).2 ⟨h, hl⟩
          rw [ec] at this
          cases this
      exact q p _ ⟨rp, ⟨no i (.inl rfl), no j (.inr rfl)⟩, x, tx, by omega, ex⟩ lu F5 b5
    | cons l rest =>
      have en : enL a b c p i j = [l] :: rest.map fun l => [l] := by unfold enL; rw [ec]; rfl
      refine iteT' (by rw [en]; simp) ?_
      obtain ⟨hl, hij⟩ := (mem l).1 (by rw [ec]; exact List.mem_cons_self)
      simp only [tSeq, tIfS, tOr, tAnd, tB, tTest, tCB, tCons, tVar, tC, tNil, tNot, tNotV, tRet, tRetN, tNext, tBreak, tOrV, tAndV, tOp, tUn, rEq, rNe, tChain, rI0, rI, rU, tAsg, gName, tDrop, tAug, ipI, tIf, tCall, tCallS, tLst, tTup, tBM, tBM0, rAppend, rExtend, rPop, rReverse, tyV, rIxL, rIxT, rIxS, rIsB, rNotB, L2.start, List.map_cons, List.map_nil, List.length_cons, List.length_nil, List.replicate, List.cons_append, List.nil_append, List.append_nil, List.getElem?_cons_zero, List.getElem?_cons_succ, List.set_cons_zero, List.set_cons_succ, Nat.reduceAdd, Nat.reduceSub, Option.some.injEq, exists_eq_left', exists_eq_left, V.int.injEq, V.bl.injEq, V.str.injEq, V.ref.injEq, List.cons.injEq, and_true, true_and, and_assoc, reduceCtorEq, false_and, exists_false, or_false, false_or, exists_and_left, exists_const, scal, Int.reduceLT, Int.reduceLE, Int.reduceSub, Int.reduceAdd, Int.reduceNeg, if_true, if_false, tMeth]
      obtain ⟨dx, e5⟩ := F5.ob
      refine ⟨dx, _, e5, fldsF_no _ _ (by decide +kernel) (by decide +kernel), _, SqL.of (FK.same_new hp1 _ _ eL4), _, (by rw [en]; exact atI_nat (j := 0) rfl), f, o, d, a, b, c, p, l, rfl, F5, by omega, rp, hl, fun k H6 hk e6 F6 b6 => ?_⟩
      have lp' : (p.take k ++ p.drop (k + 1)).length + 1 = p.length := by
        rw [List.length_append, List.length_take, List.length_drop]; omega
      generalize hp' : p.take k ++ p.drop (k + 1) = p' at e6 lp' ⊢
      have rp' : Red (om a b c) p' := by
        have h1 := ln_eqv e6
        have h2 : ln (om a b c) p = p.length := rp
        show ln (om a b c) p' = p'.length
        omega
      refine lc_ends F6 (SqT.but hS ned (b5.trans b6)) ned (by omega) fun L3 H7 F7 b7 hL3 eL3 => ?_
      refine ⟨p'.length, by omega, p', rfl, L3, rfl, F7, (b5.trans b6).trans b7, eL3, rp', Nat.le_refl _, by omega, l :: x, ?_, by rw [List.length_cons]; omega, ?_⟩
      · intro k hk
        rcases List.mem_cons.mp hk with rfl | hk
        · exact hij
        · exact tx k hk
      · have h1 := (e6.symm.right [l]).trans (snoc_snoc p l)
        have h2 := (h1.symm.right x)
        rw [List.append_assoc] at h2
        exact ex.trans h2
/-- is the corner a pair in ascending order -/
def prsD : List PyData := [.tuple [.str "0", .str "1"], .tuple [.str "1", .str "2"], .tuple [.str "0", .str "2"]]
def inPrs (cs : List Str) : Bool := prsD.any fun z => PyData.eqv z (.tuple (cs.map PyData.str))
theorem pairs_dp (T : Txt K mg cx) (H : Hp) : Dp K H (.ref cx.a_PAIRS) (.tuple prsD) := by
  obtain ⟨dd, n, sl, l⟩ := T.p_PAIRS
  refine .tup (xs := [.ref cx.b0, .ref cx.b1, .ref cx.b2]) (.inr ⟨_, _, _, l, rfl, rfl, show (_ : Nat) ≤ 16777216 from (by simp), .cons rfl (.cons rfl (.cons rfl .nil))⟩) ?_
  have one : ∀ {b : Addr} {x y : Str}, (∃ (dd : Option Addr) (n : Nat) (sl : Array (Option Value)) (t1 t2 : Tok), K.lookup b = some ⟨.type "tuple", dd, .seq #[.str x t1, .str y t2] n, sl⟩) → Dp K H (.ref b) (.tuple [.str x, .str y]) := fun {b x y} p => by
    obtain ⟨dd, n, sl, t1, t2, l⟩ := p
    exact .tup (xs := [.str x, .str y]) (.inr ⟨_, _, _, l, rfl, rfl, show (_ : Nat) ≤ 16777216 from (by simp), .cons ⟨t1, rfl⟩ (.cons ⟨t2, rfl⟩ .nil)⟩) (.cons (.str _) (.cons (.str _) .nil))
  exact .cons (one T.p_b0) (.cons (one T.p_b1) (.cons (one T.p_b2) .nil))
def spGate (K : PySem.W.Frag) (CO CW CB : Addr) : Sp := fun vs H Q E => ∃ (o e : Addr) (ns : List Int) (x y : Str) (cs : List Str), vs = [.ref o, .str x, .str y, .ref e] ∧ SqT K H o (ns.map V.int) ∧ H e = some (.tup (cs.map V.str)) ∧ x.length < sizeLine ∧ y.length < sizeLine ∧ SeqAt.shaped (.tuple (cs.map PyData.str)) = true ∧
  (okOrders ns = false → ∀ H', Same H H' → E (.ref CO) none H') ∧ (okOrders ns = true → (okWord x 60 && okWord y 60) = false → ∀ H', Same H H' → E (.ref CW) none H') ∧
  (okOrders ns = true → (okWord x 60 && okWord y 60) = true → inPrs cs = false → ∀ H', Same H H' → E (.ref CB) none H') ∧
  (okOrders ns = true → (okWord x 60 && okWord y 60) = true → inPrs cs = true → ∀ (a b c : Nat) (u v : W), ns = [(a : Int), (b : Int), (c : Int)] → okOrd a → okOrd b → okOrd c → x = wS u → y = wS v →
    ∃ i j : Fin 3, cs = [wS [i], wS [j]] ∧ u.length + v.length ≤ 60 ∧ ∀ p H', Gt (om a b c) i j (nfw a b c (u.reverse ++ v)) p → p.length ≤ 60 → Same H H' → Q (.str (wS (nfw a b c (u ++ p)))) H')
theorem ok_gate (T : Txt K mg cx) : FK.Has P w K mg base (L2.CX P w) 9 "gate" ["orders", "word", "tile", "corner"] (spGate K cx.NotOrders cx.NotWord cx.BadNumber) := by
  have H_check_orders := ok_check_orders (P := P) (w := w) (base := base) T
  have H_check_words := ok_check_words (P := P) (w := w) (base := base) T
  have H_Floor_init := ok_Floor_init (P := P) (w := w) (mg := mg) (base := base) T
  have H_Floor_normal := ok_Floor_normal (P := P) (w := w) (mg := mg) (base := base) T
  have H_way_between := ok_way_between (P := P) (w := w) (base := base) T
  have H_shortest_around := ok_shortest_around (P := P) (w := w) (base := base) T
  refine T.d_gate.okX sc_gate (fun vs H Q E h => ?_) (fun f cdv A outer s H vs Q E hr h => ?_)
  · obtain ⟨o, e, ns, x, y, cs, rfl, _⟩ := h
    rfl
  · obtain ⟨o, e, ns, x, y, cs, rfl, hS, hC, hx, hy, hsh, qO, qW, qB, q⟩ := h
    refine ⟨_, (pss_cons (ps_expr (FK.pe_h (E := E) H_check_orders (hr.mono (by decide)) (passes_call (takes_of rfl rfl rfl rfl) (fun _ _ _ _ h => h)) (pa_cons (pv 0) pa_nil)))
  (pss_cons (ps_expr (FK.pe_h (E := E) H_check_words (hr.mono (by decide)) (passes_call (takes_of rfl rfl rfl rfl) (fun _ _ _ _ h => h)) (pa_cons (pe_lst (pa_cons (pv 1) (pa_cons (pv 2) pa_nil))) pa_nil)))
  (pss_cons (ps_if (pt_cmpR (FK.op_notInT (FK.units65 hr)) (pv 3) (pe_glob (v := .ref cx.a_PAIRS) rfl T.c_PAIRS rfl) (by rfl)) (pss_one (ps_raise rfl (takes_of rfl rfl rfl rfl) (pmk_own PySem.F.excBase_ValueError T.x_BadNumber.x T.x_BadNumber.g T.x_BadNumber.k (raises_own T.x_BadNumber.b T.x_BadNumber.t) (by exact rfl)))) pss_nil)
  (pss_cons (ps_set (i := 4) sc_gate.nd rfl (Or.inl rfl) (by exact (FK.pe_i (E := E0) H_Floor_init (hr.mono (by decide)) T.g_Floor pass0 (pa_cons (pv 0) pa_nil))))
  (pss_cons (ps_set (i := 5) sc_gate.nd rfl (Or.inl rfl) (by exact (FK.pe_h (E := E0) H_shortest_around (hr.mono (by decide)) pass0 (pa_cons (pv 4) (pa_cons (FK.pe_h (E := E0) H_way_between (hr.mono (by decide)) pass0 (pa_cons (pv 4) (pa_cons (pv 1) (pa_cons (pv 2) pa_nil)))) (pa_cons (pv 3) pa_nil))))))
  (pss_one (ps_ret (FK.pe_m (E := E0) (pv 4) T.cl_Floor H_Floor_normal (hr.mono (by decide)) pass0 (pa_cons (pe_op op_add_str (pv 1) (pv 5)) pa_nil))))))))), ?_⟩
    simp only [tSeq, tIfS, tOr, tAnd, tB, tTest, tCB, tCons, tVar, tC, tNil, tNot, tNotV, tRet, tRetN, tNext, tBreak, tOrV, tAndV, tOp, tUn, rEq, rNe, tChain, rI0, rI, rU, tAsg, gName, tDrop, tAug, ipI, tIf, tCall, tCallS, tLst, tTup, tBM, tBM0, rAppend, rExtend, rPop, rReverse, tyV, rIxL, rIxT, rIxS, rIsB, rNotB, L2.start, List.map_cons, List.map_nil, List.length_cons, List.length_nil, List.replicate, List.cons_append, List.nil_append, List.append_nil, List.getElem?_cons_zero, List.getElem?_cons_succ, List.set_cons_zero, List.set_cons_succ, Nat.reduceAdd, Nat.reduceSub, Option.some.injEq, exists_eq_left', exists_eq_left, V.int.injEq, V.bl.injEq, V.str.injEq, V.ref.injEq, List.cons.injEq, and_true, true_and, and_assoc, reduceCtorEq, false_and, exists_false, or_false, false_or, exists_and_left, exists_const, scal, Int.reduceLT, Int.reduceLE, Int.reduceSub, Int.reduceAdd, Int.reduceNeg, if_true, if_false, tMeth, tMake]
    refine ⟨o, ns, rfl, hS, qO, fun eO H1 s1 => ⟨by show 2 ≤ sizeLine; decide, fun p hp => ⟨p, [x, y], rfl, SqL.of upd_same, ?_, fun eX H2 s2 => qW eO (by simpa using eX) H2 ((s1.trans (FK.same_new hp)).trans s2), fun eX H2 s2 => ?_⟩⟩⟩
    · intro z hz
      rcases List.mem_cons.mp hz with rfl | hz
      · exact hx
      · rw [List.mem_singleton.mp hz]; exact hy
    have eW : (okWord x 60 && okWord y 60) = true := by simpa using eX
    have s02 := (s1.trans (FK.same_new hp)).trans s2
    have pd : Dp K H2 (.ref e) (.tuple (cs.map PyData.str)) := .tup (SqT.of (s02 _ _ hC)) (FK.dpAll_strs cs)
    refine ⟨_, _, pd, pairs_dp T H2, hsh, by decide +kernel, ?_⟩
    refine ⟨_, rfl, ?_⟩
    cases ep : inPrs cs with
    | false => exact iteT' (by show (!inPrs cs) = true; rw [ep]; rfl) (qB eO eW ep H2 s02)
    | true =>
      refine iteF' (by show ¬ (!inPrs cs) = true; rw [ep]; decide) fun f dx hf hdx ne => ⟨f, o, dx, rfl, upd_same, fun d H4 hd e1 e2 kp => ⟨rfl, ?_⟩⟩
      obtain ⟨a, b, c, rfl, ha, hb, hc⟩ := orders_of eO
      rw [Bool.and_eq_true] at eW
      obtain ⟨u, rfl, hu⟩ := word_ok eW.1
      obtain ⟨v, rfl, hv⟩ := word_ok eW.2
      obtain ⟨F, s4, hd2⟩ := floor_new (FK.Same.tupS s02 hS) ha hb hc hf hdx hd e1 e2 kp
      obtain ⟨i, j, rfl, luv, q⟩ := q eO (by rw [eW.1, eW.2]; rfl) ep a b c u v rfl ha hb hc rfl rfl
      refine ⟨f, o, d, a, b, c, u, v, rfl, F, by omega, fun H5 F5 b5 => ?_⟩
      have C4 : SqT K H4 e [.str (wS [i]), .str (wS [j])] := SqT.of ((s02.trans s4) _ _ hC)
      have ned : e ≠ d := fun z => by
        have h := s02 _ _ hC
        rw [z, hd2] at h; cases h
      have nw := nfw_ok ha hb hc (w := u.reverse ++ v) (by rw [List.length_append, List.length_reverse]; omega)
      have l1 : (nfw a b c (u.reverse ++ v)).length ≤ 60 := by
        have := ln_self (m := om a b c) (u.reverse ++ v)
        rw [List.length_append, List.length_reverse] at this
        omega
      refine ⟨f, o, d, e, a, b, c, _, i, j, rfl, F5, ned, SqT.but C4 ned b5, l1, nw.2.1, fun p H6 G6 lp F6 b6 => ?_⟩
      obtain ⟨dx6, e6⟩ := F6.ob
      refine ⟨dx6, _, e6, fldsF_no _ _ (by decide +kernel) (by decide +kernel), _, rfl, ?_, ?_⟩
      · rw [wS_len, wS_len]; exact zl _ (by omega)
      · exact ⟨f, o, d, a, b, c, u ++ p, by rw [wS_app], F6, by rw [List.length_append]; omega, fun H7 F7 b7 => q p H7 G6 (by omega) (s02.trans (but_same s4 hd2 ((b5.trans b6).trans b7)))⟩

end
end K35

namespace K35
open PySem PySem.Spec PyProof.Rows L2 Cox
section
variable {P : Program} {w : World} {K : PySem.W.Frag} {mg : Str → Option Value} {base : Heap} {cx : Xs}
def spTold (K : PySem.W.Frag) : Sp := fun vs H Q _ => ∃ (o e : Addr) (ns : List Int) (x y : Str) (cs : List Str), vs = [.ref o, .str x, .str y, .ref e] ∧ SqT K H o (ns.map V.int) ∧ H e = some (.tup (cs.map V.str)) ∧ x.length < sizeLine ∧ y.length < sizeLine ∧ SeqAt.shaped (.tuple (cs.map PyData.str)) = true ∧
  (okOrders ns = false → ∀ H', Same H H' → Q (.str "orders") H') ∧ (okOrders ns = true → (okWord x 60 && okWord y 60) = false → ∀ H', Same H H' → Q (.str "word") H') ∧
  (okOrders ns = true → (okWord x 60 && okWord y 60) = true → inPrs cs = false → ∀ H', Same H H' → Q (.str "corner") H') ∧
  (okOrders ns = true → (okWord x 60 && okWord y 60) = true → inPrs cs = true → ∀ (a b c : Nat) (u v : W), ns = [(a : Int), (b : Int), (c : Int)] → okOrd a → okOrd b → okOrd c → x = wS u → y = wS v →
    ∃ i j : Fin 3, cs = [wS [i], wS [j]] ∧ u.length + v.length ≤ 60 ∧ ∀ p H', Gt (om a b c) i j (nfw a b c (u.reverse ++ v)) p → p.length ≤ 60 → Same H H' → Q (.str (wS (nfw a b c (u ++ p)))) H')
theorem ok_law_told (T : Txt K mg cx) : FK.Has P w K mg base CX0 10 "_law_told" ["orders", "word", "tile", "corner"] (spTold K) := by
  have H_gate := ok_gate (P := P) (w := w) (base := base) T
  refine T.d_law_told.ok sc_law_told (fun vs H Q E h => ?_) (fun f cdv A outer s H vs Q E hr h => ?_)
  · obtain ⟨o, e, ns, x, y, cs, rfl, _⟩ := h
    rfl
  · obtain ⟨o, e, ns, x, y, cs, rfl, hS, hC, hx, hy, hsh, qO, qW, qB, q⟩ := h
    refine ⟨_, (pss_one (ps_try_many rfl rfl takes0 (fun W pn xe tk po => (pss_one (ps_ret (FK.pe_hS H_gate (hr.mono (by decide)) (fun σ => passAt tk σ) (pa_cons (pv 0) (pa_cons (pv 1) (pa_cons (pv 2) (pa_cons (pv 3) pa_nil)))))))) (HdsOk.cons ⟨rfl, by decide, .inl T.x_NotOrders.g⟩ (fun a oe cls dd pn hz hf => (pss_one (ps_ret pe_str))) (HdsOk.cons ⟨rfl, by decide, .inl T.x_NotWord.g⟩ (fun a oe cls dd pn hz hf => (pss_one (ps_ret pe_str))) (HdsOk.cons ⟨rfl, by decide, .inl T.x_BadNumber.g⟩ (fun a oe cls dd pn hz hf => (pss_one (ps_ret pe_str))) HdsOk.nil))))), ?_⟩
    simp only [tSeq, tIfS, tOr, tAnd, tB, tTest, tCB, tCons, tVar, tC, tNil, tNot, tNotV, tRet, tRetN, tNext, tBreak, tOrV, tAndV, tOp, tUn, rEq, rNe, tChain, rI0, rI, rU, tAsg, gName, tDrop, tAug, ipI, tIf, tCall, tCallS, tLst, tTup, tBM, tBM0, rAppend, rExtend, rPop, rReverse, tyV, rIxL, rIxT, rIxS, rIsB, rNotB, L2.start, List.map_cons, List.map_nil, List.length_cons, List.length_nil, List.replicate, List.cons_append, List.nil_append, List.append_nil, List.getElem?_cons_zero, List.getElem?_cons_succ, List.set_cons_zero, List.set_cons_succ, Nat.reduceAdd, Nat.reduceSub, Option.some.injEq, exists_eq_left', exists_eq_left, V.int.injEq, V.bl.injEq, V.str.injEq, V.ref.injEq, List.cons.injEq, and_true, true_and, and_assoc, reduceCtorEq, false_and, exists_false, or_false, false_or, exists_and_left, exists_const, scal, Int.reduceLT, Int.reduceLE, Int.reduceSub, Int.reduceAdd, Int.reduceNeg, if_true, if_false, wMany]
    refine ⟨o, e, ns, x, y, cs, rfl, hS, hC, hx, hy, hsh, fun eO H1 s1 => ?_, fun eO eW H1 s1 => ?_, fun eO eW eP H1 s1 => ?_, q⟩
    · exact ⟨true, T.exm_NotOrders_NotOrders, fun _ b hb => qO eO H1 s1, fun z => nomatch z⟩
    · exact ⟨false, T.exm_NotWord_NotOrders, (fun z => nomatch z), fun _ => ⟨true, T.exm_NotWord_NotWord, fun _ b hb => qW eO eW H1 s1, fun z => nomatch z⟩⟩
    · exact ⟨false, T.exm_BadNumber_NotOrders, (fun z => nomatch z), fun _ => ⟨false, T.exm_BadNumber_NotWord, (fun z => nomatch z), fun _ => ⟨true, T.exm_BadNumber_BadNumber, fun _ b hb => qB eO eW eP H1 s1, fun z => nomatch z⟩⟩⟩

end
end K35

namespace K35
open PySem PySem.Spec PyProof.Rows L2 Cox
section
variable {P : Program} {w : World} {K : PySem.W.Frag} {mg : Str → Option Value} {base : Heap} {cx : Xs}
def fldsT (f n : Addr) : List (Str × V) := putF "normals" (.ref n) (putF "floor" (.ref f) [])
theorem ksf : ¬ (("floor" : Str) = "normals") := by decide +kernel
theorem fldsT_f (f n : Addr) : (fldsT f n).lookup ("floor" : Str) = some (.ref f) := by
  unfold fldsT
  rw [lookup_putF, if_neg ksf, lookup_putF, if_pos rfl]
theorem fldsT_n (f n : Addr) : (fldsT f n).lookup ("normals" : Str) = some (.ref n) := by
  unfold fldsT
  rw [lookup_putF, if_pos rfl]
theorem fldsT_no (f n : Addr) {m : Str} (h1 : ¬ m = "normals") (h2 : ¬ m = "floor") : (fldsT f n).lookup m = none := by
  unfold fldsT
  rw [lookup_putF, if_neg h1, lookup_putF, if_neg h2]
  all_goals rfl
/-- a Tiles stands at t, with at most k words remembered -/
structure TlAt (K : PySem.W.Frag) (CT CF : Addr) (H : Hp) (t f n o d : Addr) (a b c k : Nat) : Prop where
  ob : ∃ dx, H t = some (.ins CT dx (fldsT f n))
  fl : FlAt K CF H f o d a b c
  nd : n ≠ d
  dc : ∃ kvs : List (Key × V), H n = some (.dK kvs) ∧ (kvs.map (·.1)).Nodup ∧ kvs.length ≤ k ∧ ∀ kv ∈ kvs, ∃ u : W, u.length ≤ 400 ∧ kv = (.inr (wS u), .str (wS (nfw a b c u)))
/-- all but two places stay -/
def But2 (d n : Addr) (H H' : Hp) : Prop := ∀ b u, b ≠ d → b ≠ n → H b = some u → H' b = some u
theorem But2.trans {d n : Addr} {H H1 H2 : Hp} (h : But2 d n H H1) (k : But2 d n H1 H2) : But2 d n H H2 := fun b u h1 h2 e => k b u h1 h2 (h b u h1 h2 e)
theorem But2.of {d n : Addr} {H H1 : Hp} (h : FK.But d H H1) : But2 d n H H1 := fun b u h1 _ e => h b u h1 e
theorem FlAt.updN {C : Addr} {H : Hp} {f o d n : Addr} {a b c : Nat} {kvs : List (Key × V)} {u : HO} (F : FlAt K C H f o d a b c) (hn : H n = some (.dK kvs)) (nd : n ≠ d) : FlAt K C (upd H n u) f o d a b c := by
  obtain ⟨⟨dx, h1⟩, h2, ha, hb, hc, k2, h3, h4, h5⟩ := F
  refine ⟨⟨dx, by rw [upd_ne (fun z => by rw [z, hn] at h1; cases h1)]; exact h1⟩, SqT.upd h2 hn, ha, hb, hc, k2, by rw [upd_ne nd.symm]; exact h3, h4, fun kv hm => ?_⟩
  obtain ⟨s', p, a1, a2, a3⟩ := h5 kv hm
  exact ⟨s', p, a1, a2, a3.upd hn⟩
theorem SqT.frame {H H' : Hp} {o t : Addr} {xs : List V} {C dx : Addr} {fl : List (Str × V)} (h : SqT K H o xs) (ht : H t = some (.ins C dx fl)) (fr : ∀ b u, H b = some u → b ≠ t → H' b = some u) : SqT K H' o xs := by
  rcases h with (h | ⟨ob, h⟩) | h
  · exact .inl (.inl (fr _ _ h (fun z => by rw [z, ht] at h; cases h)))
  · exact .inl (.inr ⟨ob, fr _ _ h (fun z => by rw [z, ht] at h; cases h)⟩)
  · exact .inr h
theorem ScAt.frame {H H' : Hp} {p t : Addr} {a b c bits : Nat} {C dx : Addr} {fl : List (Str × V)} (h : ScAt K H p a b c bits) (ht : H t = some (.ins C dx fl)) (fr : ∀ b u, H b = some u → b ≠ t → H' b = some u) : ScAt K H' p a b c bits := by
  obtain ⟨bt, h1, h2⟩ := h
  exact ⟨bt, fr _ _ h1 (fun z => by rw [z, ht] at h1; cases h1), fr _ _ h2 (fun z => by rw [z, ht] at h2; cases h2)⟩
theorem FlAt.frame {C : Addr} {H H' : Hp} {f o d t : Addr} {a b c : Nat} {C' dx' : Addr} {fl : List (Str × V)} (F : FlAt K C H f o d a b c) (ht : H t = some (.ins C' dx' fl)) (fr : ∀ b u, H b = some u → b ≠ t → H' b = some u) (nt : t ≠ f) : FlAt K C H' f o d a b c := by
  obtain ⟨⟨dx, h1⟩, h2, ha, hb, hc, k2, h3, h4, h5⟩ := F
  refine ⟨⟨dx, fr _ _ h1 nt.symm⟩, SqT.frame h2 ht fr, ha, hb, hc, k2, fr _ _ h3 (fun z => by rw [z, ht] at h3; cases h3), h4, fun kv hm => ?_⟩
  obtain ⟨s', p, a1, a2, a3⟩ := h5 kv hm
  exact ⟨s', p, a1, a2, ScAt.frame a3 ht fr⟩
def spTilesInit (K : PySem.W.Frag) (CT CF : Addr) : Sp := fun vs H Q _ => ∃ (t o dx : Addr) (a b c : Nat), vs = [.ref t, .ref o] ∧ H t = some (.ins CT dx []) ∧ Og K H o a b c ∧
  ∀ f n d H', TlAt K CT CF H' t f n o d a b c 0 → H n = none → H d = none → (∀ b u, H b = some u → b ≠ t → H' b = some u) → Q .non H'
theorem ok_Tiles_init (T : Txt K mg cx) : FK.IHas P w K mg base (L2.CX P w) 5 cx.Tiles ["self", "orders"] (spTilesInit K cx.Tiles cx.Floor) := by
  have H_check_orders := ok_check_orders (P := P) (w := w) (base := base) T
  have H_Floor_init := ok_Floor_init (P := P) (w := w) (mg := mg) (base := base) T
  refine T.d_Tiles_init.okX sc_Tiles_init (fun vs H Q E h => ?_) (fun f cdv A outer s H vs Q E hr h => ?_)
  · obtain ⟨f, o, dx, a, b, c, rfl, _⟩ := h
    rfl
  · obtain ⟨t, o, dx, a, b, c, rfl, ht, g, q⟩ := h
    refine ⟨_, (pss_cons (ps_expr (FK.pe_h (E := E) H_check_orders (hr.mono (by decide)) (passes_call (takes_of rfl rfl rfl rfl) (fun _ _ _ _ h => h)) (pa_cons (pv 1) pa_nil)))
  (pss_cons (ps_fld (pv 0) (FK.pe_i (E := E0) H_Floor_init (hr.mono (by decide)) T.g_Floor pass0 (pa_cons (pv 1) pa_nil)) rfl)
  (pss_one (ps_fld (pv 0) pe_dnewK rfl)))), ?_⟩
    simp only [tSeq, tIfS, tOr, tAnd, tB, tTest, tCB, tCons, tVar, tC, tNil, tNot, tNotV, tRet, tRetN, tNext, tBreak, tOrV, tAndV, tOp, tUn, rEq, rNe, tChain, rI0, rI, rU, tAsg, gName, tDrop, tAug, ipI, tIf, tCall, tCallS, tLst, tTup, tBM, tBM0, rAppend, rExtend, rPop, rReverse, tyV, rIxL, rIxT, rIxS, rIsB, rNotB, L2.start, List.map_cons, List.map_nil, List.length_cons, List.length_nil, List.replicate, List.cons_append, List.nil_append, List.append_nil, List.getElem?_cons_zero, List.getElem?_cons_succ, List.set_cons_zero, List.set_cons_succ, Nat.reduceAdd, Nat.reduceSub, Option.some.injEq, exists_eq_left', exists_eq_left, V.int.injEq, V.bl.injEq, V.str.injEq, V.ref.injEq, List.cons.injEq, and_true, true_and, and_assoc, reduceCtorEq, false_and, exists_false, or_false, false_or, exists_and_left, exists_const, scal, Int.reduceLT, Int.reduceLE, Int.reduceSub, Int.reduceAdd, Int.reduceNeg, if_true, if_false, tMeth, tMake]
    refine ⟨o, [(a : Int), (b : Int), (c : Int)], rfl, SqT.of g.ob, (fun e => by rw [g.ok] at e; cases e), fun _ H1 s1 => ?_⟩
    simp only [tSeq, tIfS, tOr, tAnd, tB, tTest, tCB, tCons, tVar, tC, tNil, tNot, tNotV, tRet, tRetN, tNext, tBreak, tOrV, tAndV, tOp, tUn, rEq, rNe, tChain, rI0, rI, rU, tAsg, gName, tDrop, tAug, ipI, tIf, tCall, tCallS, tLst, tTup, tBM, tBM0, rAppend, rExtend, rPop, rReverse, tyV, rIxL, rIxT, rIxS, rIsB, rNotB, L2.start, List.map_cons, List.map_nil, List.length_cons, List.length_nil, List.replicate, List.cons_append, List.nil_append, List.append_nil, List.getElem?_cons_zero, List.getElem?_cons_succ, List.set_cons_zero, List.set_cons_succ, Nat.reduceAdd, Nat.reduceSub, Option.some.injEq, exists_eq_left', exists_eq_left, V.int.injEq, V.bl.injEq, V.str.injEq, V.ref.injEq, List.cons.injEq, and_true, true_and, and_assoc, reduceCtorEq, false_and, exists_false, or_false, false_or, exists_and_left, exists_const, scal, Int.reduceLT, Int.reduceLE, Int.reduceSub, Int.reduceAdd, Int.reduceNeg, if_true, if_false, sFld, tMake]
    refine fun f dx1 hf hdx ne => ⟨f, o, dx1, rfl, upd_same, fun d H4 hd e1 e2 kp => ?_⟩
    obtain ⟨F, s4, hd2⟩ := floor_new (SqT.of (g.same s1).ob) g.ha g.hb g.hc hf hdx hd e1 e2 kp
    have t1 : H1 t = _ := s1 _ _ ht
    have t4 : H4 t = _ := s4 _ _ t1
    refine ⟨rfl, cx.Tiles, dx, [], t4, T.cl_Tiles, T.nF_Tiles_floor, (by show 0 < 1000; decide), fun n hn => ?_⟩
    have ntn : n ≠ t := fun z => by rw [z, upd_same] at hn; cases hn
    have hn4 : H4 n = none := by rw [upd_ne ntn] at hn; exact hn
    have ntf : t ≠ f := fun z => by rw [z, hf] at t1; cases t1
    have ntd : t ≠ d := fun z => by rw [z, hd2] at t1; cases t1
    have nnd : n ≠ d := fun z => by rw [z, e2] at hn4; cases hn4
    have hn0 : H n = none := back (s1.trans s4) hn4
    have hd0 : H d = none := back s1 hd2
    refine ⟨cx.Tiles, dx, _, by rw [upd_ne ntn.symm, upd_same], T.cl_Tiles, T.nF_Tiles_normals, (by show 1 < 1000; decide), ?_⟩
    have fr : ∀ b u, H4 b = some u → b ≠ t → upd (upd (upd H4 t (.ins cx.Tiles dx (putF "floor" (.ref f) []))) n (.dK [])) t (.ins cx.Tiles dx (fldsT f n)) b = some u := fun b u e hb => by
      rw [upd_ne hb, upd_ne (fun z => by rw [z, hn4] at e; cases e), upd_ne hb]
      exact e
    exact q f n d _ ⟨⟨dx, upd_same⟩, F.frame t4 fr ntf, nnd, [], by rw [upd_ne ntn, upd_same], List.nodup_nil, Nat.zero_le _, fun _ h => nomatch h⟩ hn0 hd0 fun b u e hb => fr b u (s4 _ _ (s1 _ _ e)) hb
def spRemem (K : PySem.W.Frag) (CT CF : Addr) : Sp := fun vs H Q _ => ∃ (t f n o d : Addr) (a b c k : Nat) (u : W), vs = [.ref t, .str (wS u)] ∧ TlAt K CT CF H t f n o d a b c k ∧ u.length ≤ 400 ∧ k ≤ 10000 ∧
  ∀ H', TlAt K CT CF H' t f n o d a b c (k + 1) → But2 d n H H' → Q (.str (wS (nfw a b c u))) H'
theorem ok_Tiles_remembered (T : Txt K mg cx) : FK.MHas P w K mg base CX0 6 cx.Tiles "remembered" ["self", "word"] (spRemem K cx.Tiles cx.Floor) := by
  have H_Floor_normal := ok_Floor_normal (P := P) (w := w) (mg := mg) (base := base) T
  refine T.d_Tiles_remembered.ok sc_Tiles_remembered (fun vs H Q E h => ?_) (fun f cdv A outer s H vs Q E hr h => ?_)
  · obtain ⟨t, f, n, o, d, a, b, c, k, u, rfl, _⟩ := h
    rfl
  · obtain ⟨t, f, n, o, d, a, b, c, k, u, rfl, Tl, hu, hk, q⟩ := h
    obtain ⟨⟨dx, h1⟩, h2, h0, kvs, h3, h4, h5, h6⟩ := id Tl
    refine ⟨_, (pss_cons (ps_if (pt_cmp (pc_dnotin (hu_of hr) (pv 1) (pe_fld (pv 0) rfl))) (pss_one (ps_dput (hu_of hr) (pe_fld (pv 0) rfl) (pv 1) (FK.pe_m (E := E0) (pe_fld (pv 0) rfl) T.cl_Floor H_Floor_normal (hr.mono (by decide)) pass0 (pa_cons (pv 1) pa_nil)) rfl)) pss_nil)
  (pss_one (ps_ret (pe_dget (hu_of hr) (pe_fld (pv 0) rfl) (pv 1) (fun _ _ => rfl))))), ?_⟩
    simp only [tSeq, tIfS, tOr, tAnd, tB, tTest, tCB, tCons, tVar, tC, tNil, tNot, tNotV, tRet, tRetN, tNext, tBreak, tOrV, tAndV, tOp, tUn, rEq, rNe, tChain, rI0, rI, rU, tAsg, gName, tDrop, tAug, ipI, tIf, tCall, tCallS, tLst, tTup, tBM, tBM0, rAppend, rExtend, rPop, rReverse, tyV, rIxL, rIxT, rIxS, rIsB, rNotB, L2.start, List.map_cons, List.map_nil, List.length_cons, List.length_nil, List.replicate, List.cons_append, List.nil_append, List.append_nil, List.getElem?_cons_zero, List.getElem?_cons_succ, List.set_cons_zero, List.set_cons_succ, Nat.reduceAdd, Nat.reduceSub, Option.some.injEq, exists_eq_left', exists_eq_left, V.int.injEq, V.bl.injEq, V.str.injEq, V.ref.injEq, List.cons.injEq, and_true, true_and, and_assoc, reduceCtorEq, false_and, exists_false, or_false, false_or, exists_and_left, exists_const, scal, Int.reduceLT, Int.reduceLE, Int.reduceSub, Int.reduceAdd, Int.reduceNeg, if_true, if_false, tMeth]
    refine ⟨_, rfl, _, rfl, t, cx.Tiles, dx, _, _, rfl, h1, T.cl_Tiles, T.nF_Tiles_normals, fldsT_n _ _, n, _, rfl, DGet.k (k := Sum.inr (wS u)) h3, _, rfl, ?_⟩
    cases e : valV kvs (Sum.inr (wS u)) with
    | none =>
      refine iteT' (by simp) ?_
      simp only [tSeq, tIfS, tOr, tAnd, tB, tTest, tCB, tCons, tVar, tC, tNil, tNot, tNotV, tRet, tRetN, tNext, tBreak, tOrV, tAndV, tOp, tUn, rEq, rNe, tChain, rI0, rI, rU, tAsg, gName, tDrop, tAug, ipI, tIf, tCall, tCallS, tLst, tTup, tBM, tBM0, rAppend, rExtend, rPop, rReverse, tyV, rIxL, rIxT, rIxS, rIsB, rNotB, L2.start, List.map_cons, List.map_nil, List.length_cons, List.length_nil, List.replicate, List.cons_append, List.nil_append, List.append_nil, List.getElem?_cons_zero, List.getElem?_cons_succ, List.set_cons_zero, List.set_cons_succ, Nat.reduceAdd, Nat.reduceSub, Option.some.injEq, exists_eq_left', exists_eq_left, V.int.injEq, V.bl.injEq, V.str.injEq, V.ref.injEq, List.cons.injEq, and_true, true_and, and_assoc, reduceCtorEq, false_and, exists_false, or_false, false_or, exists_and_left, exists_const, scal, Int.reduceLT, Int.reduceLE, Int.reduceSub, Int.reduceAdd, Int.reduceNeg, if_true, if_false, sDPut, tMeth]
      obtain ⟨dxf, ef⟩ := h2.ob
      refine ⟨_, rfl, t, cx.Tiles, dx, _, _, rfl, h1, T.cl_Tiles, T.nF_Tiles_floor, fldsT_f _ _, f, rfl, dxf, _, ef, fldsF_no _ _ (by decide +kernel) (by decide +kernel), f, o, d, a, b, c, u, rfl, h2, by omega, fun H5 F5 b5 => ?_⟩
      have nt : t ≠ d := fun z => by
        obtain ⟨_, _, _, _, _, k2, h7, _⟩ := h2
        rw [← z, h1] at h7
        cases h7
      have ntn : t ≠ n := fun z => by rw [z, h3] at h1; cases h1
      have k1 := b5 _ _ nt h1
      have k3 := b5 _ _ h0 h3
      refine ⟨_, rfl, t, cx.Tiles, dx, _, _, rfl, k1, T.cl_Tiles, T.nF_Tiles_normals, fldsT_n _ _, n, rfl, _, DPut.k (k := Sum.inr (wS u)) k3 (Nat.lt_of_le_of_lt (show _ ≤ 10000 by omega) (by decide)), ?_⟩
      have hg := DGet.k (k := Sum.inr (wS u)) (upd_same (H := H5) (a := n) (o := HO.dK (putK kvs (Sum.inr (wS u)) (V.str (wS (nfw a b c u))))))
      rw [valV_put, if_pos rfl] at hg
      refine ⟨_, rfl, t, cx.Tiles, dx, _, _, rfl, by rw [upd_ne ntn]; exact k1, T.cl_Tiles, T.nF_Tiles_normals, fldsT_n _ _, _, rfl, n, _, rfl, hg, q _ ⟨⟨dx, by rw [upd_ne ntn]; exact k1⟩, F5.updN k3 h0, h0, _, upd_same, nd_putK _ h4 e, ?_, fun kv hm => ?_⟩ (fun b u h1 h2 e => by rw [upd_ne h2]; exact b5 b u h1 e)⟩
      · rw [putK_new _ e, List.length_append, List.length_singleton]
        omega
      · rw [putK_new _ e] at hm
        rcases List.mem_append.mp hm with hm | hm
        · exact h6 kv hm
        · exact ⟨u, hu, List.mem_singleton.mp hm⟩
    | some v =>
      refine iteF' (by simp) ?_
      have hm := valV_mem e
      obtain ⟨u', lu', hp⟩ := h6 _ hm
      have e1 : u = u' := wS_inj (by
        have := congrArg Prod.fst hp
        simpa using this)
      have e2 : v = V.str (wS (nfw a b c u')) := congrArg Prod.snd hp
      subst e1 e2
      have hg := DGet.k (k := Sum.inr (wS u)) h3
      rw [e] at hg
      exact ⟨_, rfl, t, cx.Tiles, dx, _, _, rfl, h1, T.cl_Tiles, T.nF_Tiles_normals, fldsT_n _ _, _, rfl, n, _, rfl, hg, q H ⟨⟨dx, h1⟩, h2, h0, kvs, h3, h4, by omega, h6⟩ (fun _ _ _ _ e => e)⟩
def spTNorm (K : PySem.W.Frag) (CT CF : Addr) : Sp := spRemem K CT CF
theorem ok_Tiles_normal (T : Txt K mg cx) : FK.MHas P w K mg base (L2.CX P w) 7 cx.Tiles "normal" ["self", "word"] (spTNorm K cx.Tiles cx.Floor) := by
  have H_check_long_word := ok_check_long_word (P := P) (w := w) (base := base) T
  have H_Tiles_remembered := ok_Tiles_remembered (P := P) (w := w) (mg := mg) (base := base) T
  refine T.d_Tiles_normal.okX sc_Tiles_normal (fun vs H Q E h => ?_) (fun f cdv A outer s H vs Q E hr h => ?_)
  · obtain ⟨t, f, n, o, d, a, b, c, k, u, rfl, _⟩ := h
    rfl
  · obtain ⟨t, f, n, o, d, a, b, c, k, u, rfl, Tl, hu, hk, q⟩ := h
    refine ⟨_, (pss_cons (ps_expr (FK.pe_h (E := E) H_check_long_word (hr.mono (by decide)) (passes_call (takes_of rfl rfl rfl rfl) (fun _ _ _ _ h => h)) (pa_cons (pv 1) (pa_cons (pe_glob (v := .int 400) rfl T.c_MOST_REMEMBERED ⟨_, rfl⟩) pa_nil))))
  (pss_one (ps_ret (FK.pe_m (E := E0) (pv 0) T.cl_Tiles H_Tiles_remembered (hr.mono (by decide)) pass0 (pa_cons (pv 1) pa_nil))))), ?_⟩
    simp only [tSeq, tIfS, tOr, tAnd, tB, tTest, tCB, tCons, tVar, tC, tNil, tNot, tNotV, tRet, tRetN, tNext, tBreak, tOrV, tAndV, tOp, tUn, rEq, rNe, tChain, rI0, rI, rU, tAsg, gName, tDrop, tAug, ipI, tIf, tCall, tCallS, tLst, tTup, tBM, tBM0, rAppend, rExtend, rPop, rReverse, tyV, rIxL, rIxT, rIxS, rIsB, rNotB, L2.start, List.map_cons, List.map_nil, List.length_cons, List.length_nil, List.replicate, List.cons_append, List.nil_append, List.append_nil, List.getElem?_cons_zero, List.getElem?_cons_succ, List.set_cons_zero, List.set_cons_succ, Nat.reduceAdd, Nat.reduceSub, Option.some.injEq, exists_eq_left', exists_eq_left, V.int.injEq, V.bl.injEq, V.str.injEq, V.ref.injEq, List.cons.injEq, and_true, true_and, and_assoc, reduceCtorEq, false_and, exists_false, or_false, false_or, exists_and_left, exists_const, scal, Int.reduceLT, Int.reduceLE, Int.reduceSub, Int.reduceAdd, Int.reduceNeg, if_true, if_false, tMeth]
    refine ⟨wS u, 400, rfl, szw (by omega), .inr (.inr rfl), (fun e => by rw [okWord_wS (by omega)] at e; cases e), fun _ H1 s1 => ?_⟩
    obtain ⟨⟨dx, h1⟩, h2, h0, kvs, h3, h4, h5, h6⟩ := id Tl
    exact ⟨dx, _, s1 _ _ h1, fldsT_no _ _ (by decide +kernel) (by decide +kernel), t, f, n, o, d, a, b, c, k, u, rfl, ⟨⟨dx, s1 _ _ h1⟩, h2.same s1, h0, kvs, s1 _ _ h3, h4, h5, h6⟩, hu, hk, fun H2 Tl2 b2 => q H2 Tl2 (fun b u h1 h2 e => b2 b u h1 h2 (s1 _ _ e))⟩

def spTBeyond (K : PySem.W.Frag) (CT CF : Addr) : Sp := fun vs H Q _ => ∃ (t f n o d : Addr) (a b c k : Nat) (u : W) (l : Fin 3), vs = [.ref t, .str (wS u), .str (wS [l])] ∧ TlAt K CT CF H t f n o d a b c k ∧ u.length ≤ 399 ∧ k ≤ 10000 ∧
  ∀ H', TlAt K CT CF H' t f n o d a b c (k + 1) → But2 d n H H' → Q (.str (wS (nfw a b c (u ++ [l])))) H'
theorem ok_Tiles_beyond (T : Txt K mg cx) : FK.MHas P w K mg base (L2.CX P w) 7 cx.Tiles "beyond" ["self", "tile", "letter"] (spTBeyond K cx.Tiles cx.Floor) := by
  have H_check_long_word := ok_check_long_word (P := P) (w := w) (base := base) T
  have H_check_letter := ok_check_letter (P := P) (w := w) (base := base) T
  have H_Tiles_remembered := ok_Tiles_remembered (P := P) (w := w) (mg := mg) (base := base) T
  refine T.d_Tiles_beyond.okX sc_Tiles_beyond (fun vs H Q E h => ?_) (fun f cdv A outer s H vs Q E hr h => ?_)
  · obtain ⟨t, f, n, o, d, a, b, c, k, u, l, rfl, _⟩ := h
    rfl
  · obtain ⟨t, f, n, o, d, a, b, c, k, u, l, rfl, Tl, hu, hk, q⟩ := h
    refine ⟨_, (pss_cons (ps_expr (FK.pe_h (E := E) H_check_long_word (hr.mono (by decide)) (passes_call (takes_of rfl rfl rfl rfl) (fun _ _ _ _ h => h)) (pa_cons (pv 1) (pa_cons (pe_glob (v := .int 400) rfl T.c_MOST_REMEMBERED ⟨_, rfl⟩) pa_nil))))
  (pss_cons (ps_expr (FK.pe_h (E := E) H_check_letter (hr.mono (by decide)) (passes_call (takes_of rfl rfl rfl rfl) (fun _ _ _ _ h => h)) (pa_cons (pv 2) pa_nil)))
  (pss_one (ps_ret (FK.pe_m (E := E0) (pv 0) T.cl_Tiles H_Tiles_remembered (hr.mono (by decide)) pass0 (pa_cons (pe_op op_add_str (pv 1) (pv 2)) pa_nil)))))), ?_⟩
    simp only [tSeq, tIfS, tOr, tAnd, tB, tTest, tCB, tCons, tVar, tC, tNil, tNot, tNotV, tRet, tRetN, tNext, tBreak, tOrV, tAndV, tOp, tUn, rEq, rNe, tChain, rI0, rI, rU, tAsg, gName, tDrop, tAug, ipI, tIf, tCall, tCallS, tLst, tTup, tBM, tBM0, rAppend, rExtend, rPop, rReverse, tyV, rIxL, rIxT, rIxS, rIsB, rNotB, L2.start, List.map_cons, List.map_nil, List.length_cons, List.length_nil, List.replicate, List.cons_append, List.nil_append, List.append_nil, List.getElem?_cons_zero, List.getElem?_cons_succ, List.set_cons_zero, List.set_cons_succ, Nat.reduceAdd, Nat.reduceSub, Option.some.injEq, exists_eq_left', exists_eq_left, V.int.injEq, V.bl.injEq, V.str.injEq, V.ref.injEq, List.cons.injEq, and_true, true_and, and_assoc, reduceCtorEq, false_and, exists_false, or_false, false_or, exists_and_left, exists_const, scal, Int.reduceLT, Int.reduceLE, Int.reduceSub, Int.reduceAdd, Int.reduceNeg, if_true, if_false, tMeth]
    refine ⟨wS u, 400, rfl, szw (by omega), .inr (.inr rfl), (fun e => by rw [okWord_wS (by omega)] at e; cases e), fun _ H1 s1 => ⟨wS [l], rfl, (fun e => by rw [isLet_wS] at e; cases e), fun _ H2 s2 => ?_⟩⟩
    obtain ⟨⟨dx, h1⟩, h2, h0, kvs, h3, h4, h5, h6⟩ := id Tl
    have s12 := s1.trans s2
    exact ⟨dx, _, s12 _ _ h1, fldsT_no _ _ (by decide +kernel) (by decide +kernel), by rw [wS_len, wS_len]; exact zl _ (by simp; omega), t, f, n, o, d, a, b, c, k, u ++ [l], by rw [wS_app], ⟨⟨dx, s12 _ _ h1⟩, h2.same s12, h0, kvs, s12 _ _ h3, h4, h5, h6⟩, by simp; omega, hk, fun H3 Tl3 b3 => q H3 Tl3 (fun b u h1 h2 e => b3 b u h1 h2 (s12 _ _ e))⟩

theorem TlAt.mono {CT CF : Addr} {H : Hp} {t f n o d : Addr} {a b c j k : Nat} (h : TlAt K CT CF H t f n o d a b c j) (hk : j ≤ k) : TlAt K CT CF H t f n o d a b c k := by
  obtain ⟨h1, h2, h3, kvs, h4, h5, h6, h7⟩ := h
  exact ⟨h1, h2, h3, kvs, h4, h5, by omega, h7⟩
structure Sv (K : PySem.W.Frag) (CT CF : Addr) (H : Hp) (o t f n d : Addr) (x y z k : Nat) : Prop where
  g : Og K H o x y z
  tl : TlAt K CT CF H t f n o d x y z k
theorem Sv.fr {CT CF : Addr} {H H' : Hp} {o t f n d D : Addr} {x y z k : Nat} {v : HO} (h : Sv K CT CF H o t f n d x y z k) (hv : (∃ acc, v = .lst acc) ∨ ∃ kvs, v = .dK kvs) (hD : H D = some v) (nn : D ≠ n) (nd : D ≠ d)
    (fr : ∀ b u, H b = some u → b ≠ D → H' b = some u) : Sv K CT CF H' o t f n d x y z k := by
  have tup : ∀ {p : Addr} {l : List V}, H p = some (.tup l) → H' p = some (.tup l) := fun {p l} e => fr p _ e (fun q => by
    rw [q, hD] at e
    rcases hv with ⟨_, rfl⟩ | ⟨_, rfl⟩ <;> cases e)
  have frz : ∀ {p : Addr} {ob : Obj} {u : HO}, H p = some (.frz ob u) → H' p = some (.frz ob u) := fun {p ob u} e => fr p _ e (fun q => by
    rw [q, hD] at e
    rcases hv with ⟨_, rfl⟩ | ⟨_, rfl⟩ <;> cases e)
  have ins : ∀ {p C dx : Addr} {l : List (Str × V)}, H p = some (.ins C dx l) → H' p = some (.ins C dx l) := fun {p C dx l} e => fr p _ e (fun q => by
    rw [q, hD] at e
    rcases hv with ⟨_, rfl⟩ | ⟨_, rfl⟩ <;> cases e)
  obtain ⟨⟨g1, ga, gb, gc⟩, ⟨dx, t1⟩, ⟨⟨dx2, f1⟩, f2, fa, fb, fc, k2, f3, f4, f5⟩, t3, kvs, t4, t5, t6, t7⟩ := h
  refine ⟨⟨tup g1, ga, gb, gc⟩, ⟨dx, ins t1⟩, ⟨⟨dx2, ins f1⟩, ?_, fa, fb, fc, k2, fr _ _ f3 nd.symm, f4, fun kv hm => ?_⟩, t3, kvs, fr _ _ t4 nn.symm, t5, t6, t7⟩
  · rcases f2 with (f2 | ⟨ob, f2⟩) | f2
    · exact .inl (.inl (tup f2))
    · exact .inl (.inr ⟨ob, frz f2⟩)
    · exact .inr f2
  · obtain ⟨s', p, a1, a2, bt, b1, b2⟩ := f5 kv hm
    exact ⟨s', p, a1, a2, bt, tup b1, tup b2⟩
theorem Sv.same {CT CF : Addr} {H H' : Hp} {o t f n d : Addr} {x y z k : Nat} (h : Sv K CT CF H o t f n d x y z k) (s : Same H H') : Sv K CT CF H' o t f n d x y z k := by
  obtain ⟨g, t1, fl, t3, kvs, t4, t5, t6, t7⟩ := h
  obtain ⟨dx, t1⟩ := t1
  exact ⟨g.same s, ⟨dx, s _ _ t1⟩, fl.same s, t3, kvs, s _ _ t4, t5, t6, t7⟩
theorem Sv.nrm {CT CF : Addr} {H H' : Hp} {o t f n d : Addr} {x y z k k' : Nat} (h : Sv K CT CF H o t f n d x y z k) (tl : TlAt K CT CF H' t f n o d x y z k') (b : But2 d n H H') : Sv K CT CF H' o t f n d x y z k' := by
  obtain ⟨⟨g1, ga, gb, gc⟩, ⟨dx, t1⟩, ⟨⟨dx2, f1⟩, f2, fa, fb, fc, k2, f3, f4, f5⟩, t3, kvs, t4, t5, t6, t7⟩ := h
  exact ⟨⟨b _ _ (fun q => by rw [q, f3] at g1; cases g1) (fun q => by rw [q, t4] at g1; cases g1) g1, ga, gb, gc⟩, tl⟩
theorem Sv.nes {CT CF : Addr} {H : Hp} {o t f n d p : Addr} {x y z k : Nat} (h : Sv K CT CF H o t f n d x y z k) (hp : H p = none) : p ≠ n ∧ p ≠ d := by
  obtain ⟨g, t1, ⟨_, _, _, _, _, k2, f3, _⟩, t3, kvs, t4, _⟩ := h
  exact ⟨(fun q => by rw [q, t4] at hp; cases hp), (fun q => by rw [q, f3] at hp; cases hp)⟩
theorem Sv.mono {CT CF : Addr} {H : Hp} {o t f n d : Addr} {x y z j k : Nat} (h : Sv K CT CF H o t f n d x y z j) (hk : j ≤ k) : Sv K CT CF H o t f n d x y z k := ⟨h.g, h.tl.mono hk⟩
/-- a list stands beside a Tiles -/
theorem Sv.nel {CT CF : Addr} {H : Hp} {o t f n d p : Addr} {x y z k : Nat} {l : List V} (h : Sv K CT CF H o t f n d x y z k) (hp : H p = some (.lst l)) : p ≠ n ∧ p ≠ d := by
  obtain ⟨g, t1, ⟨_, _, _, _, _, k2, f3, _⟩, t3, kvs, t4, _⟩ := h
  exact ⟨(fun q => by rw [q, t4] at hp; cases hp), (fun q => by rw [q, f3] at hp; cases hp)⟩
theorem Sv.nez {CT CF : Addr} {H : Hp} {o t f n d p : Addr} {x y z k : Nat} {l : List V} (h : Sv K CT CF H o t f n d x y z k) (hp : H p = some (.tup l)) : p ≠ n ∧ p ≠ d := by
  obtain ⟨g, t1, ⟨_, _, _, _, _, k2, f3, _⟩, t3, kvs, t4, _⟩ := h
  exact ⟨(fun q => by rw [q, t4] at hp; cases hp), (fun q => by rw [q, f3] at hp; cases hp)⟩
theorem Sv.lst {CT CF : Addr} {H H' : Hp} {o t f n d p : Addr} {x y z k : Nat} {l : List V} (h : Sv K CT CF H o t f n d x y z k) (b : But2 d n H H') (hp : H p = some (.lst l)) : H' p = some (.lst l) := b _ _ (h.nel hp).2 (h.nel hp).1 hp
theorem Sv.tup {CT CF : Addr} {H H' : Hp} {o t f n d p : Addr} {x y z k : Nat} {l : List V} (h : Sv K CT CF H o t f n d x y z k) (b : But2 d n H H') (hp : H p = some (.tup l)) : H' p = some (.tup l) := b _ _ (h.nez hp).2 (h.nez hp).1 hp
/-- a new Tiles -/
theorem sv_new {H H1 H' : Hp} {CT CF o t f n d : Addr} {x y z : Nat} (G : Og K H o x y z) (ht : H t = none) (s : Same H H1) (Tl : TlAt K CT CF H' t f n o d x y z 0) (fr : ∀ b u, H1 b = some u → b ≠ t → H' b = some u) : Sv K CT CF H' o t f n d x y z 0 :=
  ⟨⟨fr _ _ (s _ _ G.ob) (fun q => by
    have := G.ob
    rw [q, ht] at this
    cases this), G.ha, G.hb, G.hc⟩, Tl⟩

/-- the script stands, as a list that may be locked or a part of the text -/
def Scr (K : PySem.W.Frag) (H : Hp) (a : Addr) (xs : List V) : Prop := (∀ H', SqL K H' a xs) ∨ H a = some (.lst xs) ∨ ∃ o, H a = some (.frz o (.lst xs))
def Off (K : PySem.W.Frag) (a : Addr) (xs : List V) (D : Addr) : Prop := (∀ H', SqL K H' a xs) ∨ a ≠ D
theorem Scr.of {H : Hp} {a : Addr} {xs : List V} (h : SqL K H a xs) : Scr K H a xs := by
  rcases h with (h | ⟨o, h⟩) | h
  · exact .inr (.inl h)
  · exact .inr (.inr ⟨o, h⟩)
  · exact .inl fun _ => .inr h
theorem Scr.sq {H : Hp} {a : Addr} {xs : List V} (h : Scr K H a xs) : SqL K H a xs := by
  rcases h with h | h | ⟨o, h⟩
  · exact h H
  · exact .inl (.inl h)
  · exact .inl (.inr ⟨o, h⟩)
theorem Scr.off {H : Hp} {a D : Addr} {xs : List V} (h : Scr K H a xs) (hD : H D = none) : Off K a xs D := by
  rcases h with h | h | ⟨o, h⟩
  · exact .inl h
  · exact .inr fun z => by rw [z, hD] at h; cases h
  · exact .inr fun z => by rw [z, hD] at h; cases h
theorem Scr.keep {H H' : Hp} {a : Addr} {xs : List V} (h : Scr K H a xs) (f : ∀ u, H a = some u → (u = .lst xs ∨ ∃ o, u = .frz o (.lst xs)) → H' a = some u) : Scr K H' a xs := by
  rcases h with h | h | ⟨o, h⟩
  · exact .inl h
  · exact .inr (.inl (f _ h (.inl rfl)))
  · exact .inr (.inr ⟨o, f _ h (.inr ⟨o, rfl⟩)⟩)
theorem Scr.same {H H' : Hp} {a : Addr} {xs : List V} (h : Scr K H a xs) (s : Same H H') : Scr K H' a xs := h.keep fun u e _ => s _ _ e
theorem Scr.fr {H H' : Hp} {a D : Addr} {xs : List V} (h : Scr K H a xs) (n : Off K a xs D) (fr : ∀ b u, H b = some u → b ≠ D → H' b = some u) : Scr K H' a xs := by
  rcases n with n | n
  · exact .inl n
  · exact h.keep fun u e _ => fr _ _ e n
/-- orders, Tiles and script stand -/
structure Lw (K : PySem.W.Frag) (CT CF : Addr) (H : Hp) (o t f n d : Addr) (x y z k : Nat) (a : Addr) (xs : List V) : Prop where
  sv : Sv K CT CF H o t f n d x y z k
  sc : Scr K H a xs
theorem Lw.same {CT CF : Addr} {H H' : Hp} {o t f n d a : Addr} {x y z k : Nat} {xs : List V} (h : Lw K CT CF H o t f n d x y z k a xs) (s : Same H H') : Lw K CT CF H' o t f n d x y z k a xs := ⟨h.sv.same s, h.sc.same s⟩
theorem Lw.mono {CT CF : Addr} {H : Hp} {o t f n d a : Addr} {x y z k j : Nat} {xs : List V} (h : Lw K CT CF H o t f n d x y z k a xs) (hk : k ≤ j) : Lw K CT CF H o t f n d x y z j a xs := ⟨h.sv.mono hk, h.sc⟩
theorem Lw.nrm {CT CF : Addr} {H H' : Hp} {o t f n d a : Addr} {x y z k k' : Nat} {xs : List V} (h : Lw K CT CF H o t f n d x y z k a xs) (tl : TlAt K CT CF H' t f n o d x y z k') (b : But2 d n H H') : Lw K CT CF H' o t f n d x y z k' a xs := by
  refine ⟨h.sv.nrm tl b, h.sc.keep fun u e eu => ?_⟩
  obtain ⟨⟨g, t1, ⟨_, _, _, _, _, k2, f3, _⟩, t3, kvs, t4, _⟩, _⟩ := h
  refine b _ _ (fun q => ?_) (fun q => ?_) e
  · rw [q, f3] at e
    cases e
    rcases eu with eu | ⟨_, eu⟩ <;> cases eu
  · rw [q, t4] at e
    cases e
    rcases eu with eu | ⟨_, eu⟩ <;> cases eu
theorem Lw.fr {CT CF : Addr} {H H' : Hp} {o t f n d D a : Addr} {x y z k : Nat} {v : HO} {xs : List V} (h : Lw K CT CF H o t f n d x y z k a xs) (hv : (∃ acc, v = .lst acc) ∨ ∃ kvs, v = .dK kvs) (hD : H D = some v) (nn : D ≠ n) (nd : D ≠ d) (off : Off K a xs D)
    (fr : ∀ b u, H b = some u → b ≠ D → H' b = some u) : Lw K CT CF H' o t f n d x y z k a xs := ⟨h.sv.fr hv hD nn nd fr, h.sc.fr off fr⟩
/-- a list beside changes -/
theorem Lw.upd {CT CF : Addr} {H : Hp} {o t f n d D a : Addr} {x y z k : Nat} {l l' : List V} {xs : List V} (h : Lw K CT CF H o t f n d x y z k a xs) (hD : H D = some (.lst l)) (off : Off K a xs D) : Lw K CT CF (L2.upd H D (.lst l')) o t f n d x y z k a xs :=
  h.fr (.inl ⟨l, rfl⟩) hD (h.sv.nel hD).1 (h.sv.nel hD).2 off fun b u e hb => by rw [upd_ne hb]; exact e
theorem lw_new {H H1 H' : Hp} {CT CF o t f n d a : Addr} {x y z : Nat} {xs : List V} (G : Og K H o x y z) (sq : Scr K H a xs) (ht : H t = none) (s : Same H H1) (Tl : TlAt K CT CF H' t f n o d x y z 0) (fr : ∀ b u, H1 b = some u → b ≠ t → H' b = some u) : Lw K CT CF H' o t f n d x y z 0 a xs :=
  ⟨sv_new G ht s Tl fr, (sq.same s).fr (sq.off ht) fr⟩


end
end K35

namespace K35
open PySem PySem.Spec PyProof.Rows L2 Cox
section
variable {P : Program} {w : World} {K : PySem.W.Frag} {mg : Str → Option Value} {base : Heap} {cx : Xs}
theorem cornr {r : Int} (h0 : 0 ≤ r) (h1 : r < 3) {p1 p2 p3 : Addr} {H : Hp} (e1 : H p1 = some (.tup [.str "0", .str "1"])) (e2 : H p2 = some (.tup [.str "0", .str "2"])) (e3 : H p3 = some (.tup [.str "1", .str "2"])) :
    ∃ (e : Addr) (i j : Fin 3), atI [V.ref p1, V.ref p2, V.ref p3] r = some (.ref e) ∧ H e = some (.tup [.str (wS [i]), .str (wS [j])]) ∧ i ≠ j ∧ inPrs [wS [i], wS [j]] = true := by
  obtain ⟨k, rfl⟩ := Int.eq_ofNat_of_zero_le h0
  match k, h1 with
  | 0, _ => exact ⟨p1, 0, 1, rfl, e1, by decide, by decide +kernel⟩
  | 1, _ => exact ⟨p2, 0, 2, rfl, e2, by decide, by decide +kernel⟩
  | 2, _ => exact ⟨p3, 1, 2, rfl, e3, by decide, by decide +kernel⟩
/-- what is around after so many directions -/
structure ArI (a b c : Nat) (i j : Fin 3) (u : W) (ar : List W) (fi : Nat) : Prop where
  hd : ar[0]? = some (nfw a b c u)
  nd : ar.Nodup
  of : ∀ x ∈ ar, ∃ y, Two i j y ∧ y.length ≤ 14 ∧ x = nfw a b c (u ++ y)
  one : 1 ≤ fi → ∀ k, k ≤ 14 → nfw a b c (u ++ alt i j k) ∈ ar
  two : 2 ≤ fi → ∀ k, k ≤ 14 → nfw a b c (u ++ alt j i k) ∈ ar
theorem shp2 : ∀ i j : Fin 3, SeqAt.shaped (.tuple ([wS [i], wS [j]].map PyData.str)) = true := by decide +kernel
theorem told_w {H : Hp} {o e : Addr} {x y z : Nat} {u v : W} {i j : Fin 3} {Q : VK} {E : XK} (G : Og K H o x y z) (he : H e = some (.tup [.str (wS [i]), .str (wS [j])])) (luv : u.length + v.length ≤ 60) (hp : inPrs [wS [i], wS [j]] = true)
    (q : ∀ p H', Gt (om x y z) i j (nfw x y z (u.reverse ++ v)) p → p.length ≤ 60 → Same H H' → Q (.str (wS (nfw x y z (u ++ p)))) H') : spTold K [.ref o, .str (wS u), .str (wS v), .ref e] H Q E := by
  refine ⟨o, e, [(x : Int), (y : Int), (z : Int)], wS u, wS v, [wS [i], wS [j]], rfl, SqT.of G.ob, he, szw (by omega), szw (by omega), shp2 i j, (fun h => by rw [G.ok] at h; cases h), (fun _ h => by rw [okWord_wS (by omega), okWord_wS (by omega)] at h; cases h), (fun _ _ h => by rw [hp] at h; cases h), fun _ _ _ a' b' c' u' v' e1 _ _ _ e2 e3 => ?_⟩
  obtain ⟨rfl, rfl, rfl⟩ := inj3 e1
  have h2 := wS_inj e2
  have h3 := wS_inj e3
  subst h2 h3
  exact ⟨i, j, rfl, luv, q⟩
theorem told_c {H : Hp} {o e : Addr} {x y z : Nat} {u v : W} {cs : List Str} {Q : VK} {E : XK} (G : Og K H o x y z) (he : H e = some (.tup (cs.map V.str))) (hu : u.length ≤ 60) (hv : v.length ≤ 60) (hs : SeqAt.shaped (.tuple (cs.map PyData.str)) = true) (hp : inPrs cs = false)
    (q : ∀ H', Same H H' → Q (.str "corner") H') : spTold K [.ref o, .str (wS u), .str (wS v), .ref e] H Q E :=
  ⟨o, e, [(x : Int), (y : Int), (z : Int)], wS u, wS v, cs, rfl, SqT.of G.ob, he, szw (by omega), szw (by omega), hs, (fun h => by rw [G.ok] at h; cases h), (fun _ h => by rw [okWord_wS (by omega), okWord_wS (by omega)] at h; cases h), (fun _ _ _ => q), fun _ _ h => by rw [hp] at h; cases h⟩
theorem told_x {H : Hp} {o e : Addr} {x y z : Nat} {s1 s2 : Str} {cs : List Str} {Q : VK} {E : XK} (G : Og K H o x y z) (he : H e = some (.tup (cs.map V.str))) (h1 : s1.length < sizeLine) (h2 : s2.length < sizeLine) (hs : SeqAt.shaped (.tuple (cs.map PyData.str)) = true) (hw : (okWord s1 60 && okWord s2 60) = false)
    (q : ∀ H', Same H H' → Q (.str "word") H') : spTold K [.ref o, .str s1, .str s2, .ref e] H Q E :=
  ⟨o, e, [(x : Int), (y : Int), (z : Int)], s1, s2, cs, rfl, SqT.of G.ob, he, h1, h2, hs, (fun h => by rw [G.ok] at h; cases h), (fun _ _ => q), (fun _ h => by rw [hw] at h; cases h), fun _ h => by rw [hw] at h; cases h⟩
theorem told_o {H : Hp} {o e : Addr} {ns : List Int} {s1 s2 : Str} {cs : List Str} {Q : VK} {E : XK} (ho : SqT K H o (ns.map V.int)) (hn : okOrders ns = false) (he : H e = some (.tup (cs.map V.str))) (h1 : s1.length < sizeLine) (h2 : s2.length < sizeLine) (hs : SeqAt.shaped (.tuple (cs.map PyData.str)) = true)
    (q : ∀ H', Same H H' → Q (.str "orders") H') : spTold K [.ref o, .str s1, .str s2, .ref e] H Q E :=
  ⟨o, e, ns, s1, s2, cs, rfl, ho, he, h1, h2, hs, (fun _ => q), (fun h => by rw [hn] at h; cases h), (fun h => by rw [hn] at h; cases h), fun h => by rw [hn] at h; cases h⟩
theorem strng {r : Int} (h0 : 0 ≤ r) (h1 : r < 5) {p1 p2 p3 p4 p5 : Addr} {H : Hp} (e1 : H p1 = some (.tup [.str "1", .str "0"])) (e2 : H p2 = some (.tup [.str "0", .str "0"])) (e3 : H p3 = some (.tup [.str "0", .str "3"])) (e4 : H p4 = some (.tup [.str "0"])) (e5 : H p5 = some (.tup [.str "0", .str "1", .str "2"])) :
    ∃ (e : Addr) (cs : List Str), atI [V.ref p1, V.ref p2, V.ref p3, V.ref p4, V.ref p5] r = some (.ref e) ∧ H e = some (.tup (cs.map V.str)) ∧ SeqAt.shaped (.tuple (cs.map PyData.str)) = true ∧ inPrs cs = false := by
  obtain ⟨k, rfl⟩ := Int.eq_ofNat_of_zero_le h0
  match k, h1 with
  | 0, _ => exact ⟨p1, ["1", "0"], rfl, e1, by decide +kernel, by decide +kernel⟩
  | 1, _ => exact ⟨p2, ["0", "0"], rfl, e2, by decide +kernel, by decide +kernel⟩
  | 2, _ => exact ⟨p3, ["0", "3"], rfl, e3, by decide +kernel, by decide +kernel⟩
  | 3, _ => exact ⟨p4, ["0"], rfl, e4, by decide +kernel, by decide +kernel⟩
  | 4, _ => exact ⟨p5, ["0", "1", "2"], rfl, e5, by decide +kernel, by decide +kernel⟩
theorem filter_one {p : Nat → Bool} {k0 N : Nat} (h : ∀ k, k < N → (p k = true ↔ k = k0)) : ∀ n, n ≤ N → (List.range n).filter p = if k0 < n then [k0] else []
  | 0, _ => by simp
  | n + 1, hn => by
    have ih := filter_one h n (by omega)
    have hp := h n (by omega)
    rw [List.range_succ, List.filter_append, ih]
    by_cases c : n = k0
    · have pt : p n = true := hp.2 c
      rw [if_neg (by omega), if_pos (by omega), List.filter_cons, if_pos pt, c]
      rfl
    · have pf : ¬ p n = true := fun z => c (hp.1 z)
      rw [List.filter_cons, if_neg pf, List.filter_nil, List.append_nil]
      by_cases c2 : k0 < n
      · rw [if_pos c2, if_pos (by omega)]
      · rw [if_neg c2, if_neg (by omega)]

theorem atI_back {α : Type} {xs : List α} {k : Nat} {v : α} (h0 : 0 < k) (h1 : k ≤ xs.length) (h : xs[xs.length - k]? = some v) : atI xs (-(k : Int)) = some v := by
  unfold atI ixN
  rw [if_neg (by omega), if_pos (by omega)]
  show xs[_]? = some v
  rw [show ((-(k : Int)) + (xs.length : Int)).toNat = xs.length - k by omega]
  exact h
def pickP (ls : List Int) (m : Int) : V → Bool
  | .int r => decide (ls.getD r.toNat (-1) = m)
  | _ => false
def pickF (ar : List W) : V → V
  | .int r => .str (wS (ar.getD r.toNat []))
  | x => x
theorem pick_one {ar : List W} {ls : List Int} {m : Int} {n k0 : Nat} (hk : k0 < n) (h : ∀ k, k < n → (ls.getD k (-1) = m ↔ k = k0)) : (((List.range n).map fun k => V.int (k : Nat)).filter (pickP ls m)).map (pickF ar) = [.str (wS (ar.getD k0 []))] := by
  rw [List.filter_map, filter_one (p := pickP ls m ∘ fun k : Nat => V.int (k : Nat)) (k0 := k0) (N := n) (fun k hk => by
    show decide (ls.getD ((k : Nat) : Int).toNat (-1) = m) = true ↔ _
    rw [Int.toNat_natCast, decide_eq_true_iff]
    exact h k hk) n (Nat.le_refl _), if_pos hk]
  show [V.str (wS (ar.getD ((k0 : Nat) : Int).toNat []))] = _
  rw [Int.toNat_natCast]
/-- the lengths, found so far -/
def LnP (K : PySem.W.Frag) (CT CF o t f n d a : Addr) (x y z : Nat) (xs : List V) (L e : Addr) (ar : List W) (i j : Fin 3) (u : W) (k : Nat) (acc : List V) (H : Hp) : Prop :=
  acc = (ar.take k).map (fun w => V.int ((nfw x y z (u.reverse ++ w)).length : Nat)) ∧ H L = some (.lst ((ar.map wS).map V.str)) ∧ H e = some (.tup [.str (wS [i]), .str (wS [j])]) ∧ Lw K CT CF H o t f n d x y z (100 + k) a xs
theorem txt_pd {u : W} (hu : u.length ≤ 1000) : ∃ d : PyData, (∀ H, Dp K H (.str (wS u)) d) ∧ d.showable = true ∧ d.hasDict = false ∧ d.depth < 40 ∧ d.shown.length ≤ sizeLine := by
  refine ⟨.str (wS u), fun _ => .str _, rfl, rfl, by show 0 < 40; decide, ?_⟩
  have h := StrLaws.reprText_len (wS u) fun c hc => by
    rw [wS_list] at hc
    obtain ⟨i, _, rfl⟩ := List.mem_map.mp hc
    have := i.2
    omega
  rw [wS_len] at h
  show (reprText (wS u)).length ≤ sizeLine
  exact Nat.le_trans h (Nat.le_trans (show 10 * u.length + 2 ≤ 20000 by omega) (by decide))
theorem nth_at (p q : Fin 3) (k : Nat) : atI [V.str (wS [p]), V.str (wS [q])] (((k % 2 : Nat)) : Int) = some (.str (wS [nth p q k])) := by
  unfold nth
  by_cases c : k % 2 = 0
  · rw [c, if_pos rfl]; rfl
  · rw [show k % 2 = 1 by omega, if_neg (by decide)]; rfl
theorem dirs {fi : Nat} (h : fi < 2) (i j : Fin 3) : ∃ p q : Fin 3, (∀ k : Nat, atI [V.str (wS [i]), V.str (wS [j])] (((fi : Nat) + (k : Nat) : Int) % 2) = some (.str (wS [nth p q k]))) ∧ (∀ n, Two i j (alt p q n)) ∧ (fi = 0 → p = i ∧ q = j) ∧ (fi = 1 → p = j ∧ q = i) := by
  match fi, h with
  | 0, _ =>
    refine ⟨i, j, fun k => ?_, fun n => Two.alt n i j, fun _ => ⟨rfl, rfl⟩, fun h => nomatch h⟩
    rw [show ((0 : Nat) + (k : Nat) : Int) % 2 = ((k % 2 : Nat) : Int) by omega]
    exact nth_at i j k
  | 1, _ =>
    refine ⟨j, i, fun k => ?_, fun n => (Two.alt n j i).swap, (fun h => nomatch h), fun _ => ⟨rfl, rfl⟩⟩
    rw [show ((1 : Nat) + (k : Nat) : Int) % 2 = (((k + 1) % 2 : Nat) : Int) by omega, nth_at i j (k + 1), nth_succ]
theorem ArI.put {a b c : Nat} {i j : Fin 3} {u : W} {ar : List W} {fi : Nat} (h : ArI a b c i j u ar fi) {x y : W} (hx : x ∉ ar) (ty : Two i j y) (ly : y.length ≤ 14) (e : x = nfw a b c (u ++ y)) : ArI a b c i j u (ar ++ [x]) fi := by
  refine ⟨?_, ?_, fun z hz => ?_, fun h1 k hk => List.mem_append_left _ (h.one h1 k hk), fun h1 k hk => List.mem_append_left _ (h.two h1 k hk)⟩
  · have h0 := h.hd
    have l0 : 0 < ar.length := (List.getElem?_eq_some_iff.mp h0).1
    rw [List.getElem?_append_left l0]
    exact h0
  · exact List.nodup_append.mpr ⟨h.nd, (List.pairwise_singleton _ _), fun p hp q hq => by
      rw [List.mem_singleton.mp hq]
      exact fun z => hx (z ▸ hp)⟩
  · rcases List.mem_append.mp hz with hz | hz
    · exact h.of z hz
    · rw [List.mem_singleton.mp hz]
      exact ⟨y, ty, ly, e⟩
theorem ok_law (T : Txt K mg cx) {fa : Addr} {s : Shared} {H : Hp} {a : Addr} {ns : List Int} (g : mg "law" = some (.ref fa)) (hr1 : Room 11 callerA) (e0 : Env0 P w K mg base callerA [] s H) (sq : SqL K H a (ns.map V.int)) (hl : ns.length ≤ 63) :
    codeAny (model P w) callerA (.call (.ref fa) ⟨[.ref a], []⟩) (CR CX0 [] P w H s (fun v _ => v = .bl true) E0) s := by
  have H_law_cell := ok_law_cell (P := P) (w := w) (base := base) T
  have H_law_orders := ok_law_orders (P := P) (w := w) (base := base) T
  have H_law_word := ok_law_word (P := P) (w := w) (base := base) T
  have H_law_told := ok_law_told (P := P) (w := w) (base := base) T
  have H_Tiles_init := ok_Tiles_init (P := P) (w := w) (mg := mg) (base := base) T
  have H_Tiles_normal := ok_Tiles_normal (P := P) (w := w) (mg := mg) (base := base) T
  have H_Tiles_beyond := ok_Tiles_beyond (P := P) (w := w) (mg := mg) (base := base) T
  refine T.d_law.run (vs := [.ref a]) g sc_law hr1 e0 (.cons rfl .nil) rfl fun cdv hr hG => ?_
  refine ⟨_, (C8.pss_cut (ps_set (i := 1) sc_law.nd rfl (Or.inl rfl) (by exact (FK.pe_h (E := E0) H_law_orders (hr.mono (by decide)) pass0 (pa_cons (FK.pe_h (E := E0) H_law_cell (hr.mono (by decide)) pass0 (pa_cons (pv 0) (pa_cons pe_int pa_nil))) pa_nil))))
  (C8.pss_cut (ps_set (i := 2) sc_law.nd rfl (Or.inr rfl) (by exact (FK.pe_i (E := E0) H_Tiles_init (hr.mono (by decide)) T.g_Tiles FK.pass1 (pa_cons (pv 1) pa_nil))))
  (C8.pss_cut (ps_set (i := 3) sc_law.nd rfl (Or.inr rfl) (by exact (FK.pe_h (E := E0) H_law_word (hr.mono (by decide)) pass0 (pa_cons (FK.pe_h (E := E0) H_law_cell (hr.mono (by decide)) pass0 (pa_cons (pv 0) (pa_cons pe_int pa_nil))) (pa_cons pe_int pa_nil)))))
  (C8.pss_cut (ps_set (i := 4) sc_law.nd rfl (Or.inl rfl) (by exact (FK.pe_h (E := E0) H_law_word (hr.mono (by decide)) pass0 (pa_cons (FK.pe_h (E := E0) H_law_cell (hr.mono (by decide)) pass0 (pa_cons (pv 0) (pa_cons pe_int pa_nil))) (pa_cons pe_int pa_nil)))))
  (C8.pss_cut (ps_set (i := 5) sc_law.nd rfl (Or.inl rfl) (by exact (pe_ix (r := rIxL K) ix_list (pe_lst (pa_cons (pe_tup (pa_cons pe_str (pa_cons pe_str pa_nil))) (pa_cons (pe_tup (pa_cons pe_str (pa_cons pe_str pa_nil))) (pa_cons (pe_tup (pa_cons pe_str (pa_cons pe_str pa_nil))) pa_nil)))) (pe_op op_mod (FK.pe_h (E := E0) H_law_cell (hr.mono (by decide)) pass0 (pa_cons (pv 0) (pa_cons pe_int pa_nil))) pe_int) (fun _ _ => rfl))))
  (C8.pss_cut (ps_set (i := 6) sc_law.nd rfl (Or.inr rfl) (by exact (pe_lst (pa_cons (FK.pe_m (E := E0) (pv 2) T.cl_Tiles H_Tiles_normal (hr.mono (by decide)) FK.pass1 (pa_cons (pv 4) pa_nil)) pa_nil))))
  (C8.pss_cut (ps_for PassesOwn.never rfl (pi_range1 rfl T.n_range (pa_cons pe_int pa_nil)) (pg_name (i := 7) sc_law.nd rfl (Or.inl rfl))
  (C8.pss_cut (ps_set (i := 13) sc_law.nd rfl (Or.inl rfl) (by exact (pe_ix (r := rIxL K) ix_list (pv 6) pe_int (fun _ _ => rfl))))
  (pss_one (ps_for PassesOwn.never rfl (pi_range1 rfl T.n_range (pa_cons pe_int pa_nil)) (pg_name (i := 11) sc_law.nd rfl (Or.inl rfl))
  (C8.pss_cut (ps_set (i := 13) sc_law.nd rfl (Or.inl rfl) (by exact (FK.pe_m (E := E0) (pv 2) T.cl_Tiles H_Tiles_beyond (hr.mono (by decide)) FK.pass1 (pa_cons (pv 13) (pa_cons (pe_ix (r := rIxT K) ix_tup (pv 5) (pe_op op_mod (pe_op op_add (pv 7) (pv 11)) pe_int) (fun _ _ => rfl)) pa_nil)))))
  (pss_one (ps_if (pt_cmpR (show OpR _ (compareOp .NotIn) (rIn K true) from op_notIn_seq) (pv 13) (pv 6) (by rfl)) (pss_one (ps_expr (pe_bm PySem.F.plainAttrs_list PySem.F.slot_list_append PySem.F.type_list_append mt_append (pv 6) (pa_cons (pv 13) pa_nil)))) pss_nil)))))))
  (C8.pss_cut (ps_set (i := 8) sc_law.nd rfl (Or.inr rfl) (by exact (pe_lc (own := [("one", 14)]) (g := gName 14) (tt := tYes) rfl sc_law.nd (pi_list (pv 6)) (blkOk_by (own := [("one", 14)]) (N := ["script", "orders", "floor", "word", "tile", "corner", "around", "first", "lengths", "least", "told", "k", "strange", "here", "one"]) (sc := defScope s_law) (by decide +kernel)) (fun _ _ _ _ _ => (pg_name (i := 14) sc_law.nd rfl (Or.inl rfl))) (fun _ _ _ _ _ => pts_nil) (fun _ _ _ _ _ => (pe_callB call_len_str (by rfl) T.n_len PySem.boot_len (pa_cons (FK.pe_m (E := E0) (pv 2) T.cl_Tiles H_Tiles_normal (hr.mono (by decide)) FK.pass1 (pa_cons (pe_op op_add_str (FK.pe_revS (pv 3)) (pv 14)) pa_nil)) pa_nil))))))
  (C8.pss_cut (ps_setLc (i := 9) (own := [("k", 11)]) (g := gName 11)  rfl sc_law.nd rfl rfl (sw_true rfl rfl rfl (by decide +kernel)) (pi_range1 rfl T.n_range (pa_cons (pe_callB call_len_seq (by rfl) T.n_len PySem.boot_len (pa_cons (pv 6) pa_nil)) pa_nil)) (blkOk_by (own := [("k", 11)]) (N := ["script", "orders", "floor", "word", "tile", "corner", "around", "first", "lengths", "least", "told", "k", "strange", "here", "one"]) (sc := defScope s_law) (by decide +kernel)) (fun _ _ _ _ _ => (pg_name (i := 11) sc_law.nd rfl (Or.inl rfl))) (fun _ _ _ _ _ => (pts_one (pt_cmpR op_eq (pe_ix (r := rIxL K) ix_list (pv 8) (pv 11) (fun _ _ => rfl)) (pe_callB (show CallR _ (.builtin "min") (rMin K) from cr_min rfl) (by rfl) T.n_min (by decide +kernel) (pa_cons (pv 8) pa_nil)) (nomark _)))) (fun _ _ _ _ _ => (pe_ix (r := rIxL K) ix_list (pv 6) (pv 11) (fun _ _ => rfl))))
  (C8.pss_cut (ps_set (i := 10) sc_law.nd rfl (Or.inl rfl) (by exact (FK.pe_h (E := E0) H_law_told (hr.mono (by decide)) pass0 (pa_cons (pv 1) (pa_cons (pv 3) (pa_cons (pv 4) (pa_cons (pv 5) pa_nil)))))))
  (C8.pss_cut (ps_if (PW.pt (pw_or (pt_cmpR op_ne (pe_callB call_len_seq (by rfl) T.n_len PySem.boot_len (pa_cons (pv 9) pa_nil)) pe_int (nomark _)) (pw_or1 (pt_cmpR op_ne (pe_callB (FK.call_repr hG hr) (by rfl) T.n_repr (by decide +kernel) (pa_cons (pv 10) pa_nil)) (pe_callB (FK.call_repr hG hr) (by rfl) T.n_repr (by decide +kernel) (pa_cons (pe_ix (r := rIxL K) ix_list (pv 9) pe_int (fun _ _ => rfl)) pa_nil)) (nomark _))))) (pss_one (ps_ret pe_bl)) pss_nil)
  (C8.pss_cut (ps_for PassesOwn.never rfl (pi_range1 rfl T.n_range (pa_cons (pe_callB call_len_seq (by rfl) T.n_len PySem.boot_len (pa_cons (pv 6) pa_nil)) pa_nil)) (pg_name (i := 11) sc_law.nd rfl (Or.inl rfl))
  (pss_one (ps_if (pt_cmpR op_ne (pe_ix (r := rIxL K) ix_list (pv 8) (pv 11) (fun _ _ => rfl)) (pe_op op_add (pe_callB (show CallR _ (.builtin "min") (rMin K) from cr_min rfl) (by rfl) T.n_min (by decide +kernel) (pa_cons (pv 8) pa_nil)) (pe_callB call_len_str (by rfl) T.n_len PySem.boot_len (pa_cons (FK.pe_m (E := E0) (pv 2) T.cl_Tiles H_Tiles_normal (hr.mono (by decide)) FK.pass1 (pa_cons (pe_op op_add_str (FK.pe_revS (pv 10)) (pe_ix (r := rIxL K) ix_list (pv 6) (pv 11) (fun _ _ => rfl))) pa_nil)) pa_nil))) (nomark _)) (pss_one (ps_ret pe_bl)) pss_nil)))
  (C8.pss_cut (ps_if (pt_cmpR op_ne (pe_callB (FK.call_repr hG hr) (by rfl) T.n_repr (by decide +kernel) (pa_cons (FK.pe_h (E := E0) H_law_told (hr.mono (by decide)) pass0 (pa_cons (pv 1) (pa_cons (pv 3) (pa_cons (pe_ix (r := rIxL K) ix_list (pv 6) (pe_un un_neg pe_int) (fun _ _ => rfl)) (pa_cons (pv 5) pa_nil))))) pa_nil)) (pe_callB (FK.call_repr hG hr) (by rfl) T.n_repr (by decide +kernel) (pa_cons (pv 10) pa_nil)) (nomark _)) (pss_one (ps_ret pe_bl)) pss_nil)
  (C8.pss_cut (ps_set (i := 12) sc_law.nd rfl (Or.inl rfl) (by exact (pe_ix (r := rIxL K) ix_list (pe_lst (pa_cons (pe_tup (pa_cons pe_str (pa_cons pe_str pa_nil))) (pa_cons (pe_tup (pa_cons pe_str (pa_cons pe_str pa_nil))) (pa_cons (pe_tup (pa_cons pe_str (pa_cons pe_str pa_nil))) (pa_cons (pe_tup (pa_cons pe_str pa_nil)) (pa_cons (pe_tup (pa_cons pe_str (pa_cons pe_str (pa_cons pe_str pa_nil)))) pa_nil)))))) (pe_op op_mod (FK.pe_h (E := E0) H_law_cell (hr.mono (by decide)) pass0 (pa_cons (pv 0) (pa_cons pe_int pa_nil))) pe_int) (fun _ _ => rfl))))
  (C8.pss_cut (ps_if (PW.pt (pw_or (pt_cmpR op_ne (FK.pe_h (E := E0) H_law_told (hr.mono (by decide)) pass0 (pa_cons (pv 1) (pa_cons (pv 3) (pa_cons (pv 4) (pa_cons (pv 12) pa_nil))))) pe_str (nomark _)) (pw_or1 (pt_cmpR op_ne (FK.pe_h (E := E0) H_law_told (hr.mono (by decide)) pass0 (pa_cons (pe_tup (pa_cons pe_int (pa_cons pe_int (pa_cons pe_int pa_nil)))) (pa_cons pe_str (pa_cons (pv 4) (pa_cons (pv 12) pa_nil))))) pe_str (nomark _))))) (pss_one (ps_ret pe_bl)) pss_nil)
  (pss_one (ps_ret (pe_and (pe_cmpR op_eq (FK.pe_h (E := E0) H_law_told (hr.mono (by decide)) pass0 (pa_cons (pv 1) (pa_cons pe_str (pa_cons (pv 4) (pa_cons (pv 12) pa_nil))))) pe_str (nomark _)) (pe_one (pe_cmpR op_eq (FK.pe_h (E := E0) H_law_told (hr.mono (by decide)) pass0 (pa_cons (pv 1) (pa_cons (pv 3) (pa_cons pe_str (pa_cons (pv 12) pa_nil))))) pe_str (nomark _))))))))))))))))))))), ?_⟩
  generalize hxs : ns.map V.int = xs at sq
  -- orders
  refine ⟨fun σ H => ∃ (o : Addr) (x y z : Nat), σ = [some (.ref a), some (.ref o), none, none, none, none, none, none, none, none, none, none, none, none, none] ∧ Og K H o x y z ∧ Scr K H a xs, ?_, ?_⟩
  · simp only [tSeq, tIfS, tOr, tAnd, tB, tTest, tCB, tCons, tVar, tC, tNil, tNot, tNotV, tRet, tRetN, tNext, tBreak, tOrV, tAndV, tOp, tUn, rEq, rNe, tChain, rI0, rI, rU, tAsg, gName, tDrop, tAug, ipI, tIf, tCall, tCallS, tLst, tTup, tBM, tBM0, rAppend, rExtend, rPop, rReverse, tyV, rIxL, rIxT, rIxS, rIsB, rNotB, L2.start, List.map_cons, List.map_nil, List.length_cons, List.length_nil, List.replicate, List.cons_append, List.nil_append, List.append_nil, List.getElem?_cons_zero, List.getElem?_cons_succ, List.set_cons_zero, List.set_cons_succ, Nat.reduceAdd, Nat.reduceSub, Option.some.injEq, exists_eq_left', exists_eq_left, V.int.injEq, V.bl.injEq, V.str.injEq, V.ref.injEq, List.cons.injEq, and_true, true_and, and_assoc, reduceCtorEq, false_and, exists_false, or_false, false_or, exists_and_left, exists_const, scal, Int.reduceLT, Int.reduceLE, Int.reduceSub, Int.reduceAdd, Int.reduceNeg, if_true, if_false]
    subst hxs
    exact ⟨_, _, 0, rfl, sq, fun i => ⟨i, rfl, fun o x y z H' hx hy hz hn ho s1 => ⟨o, rfl, x, y, z, ⟨ho, hx, hy, hz⟩, (Scr.of sq).same s1⟩⟩⟩
  rintro σ H1 ⟨o, x, y, z, rfl, G1, sc1⟩
  have cell : ∀ {H' : Hp} (k : Nat) {Q : VK}, Scr K H' a xs → (∀ i, Q (.int i) H') → spCell K [.ref a, .int (k : Int)] H' Q E0 := fun k Q h q => ⟨a, ns, k, rfl, by rw [hxs]; exact h.sq, q⟩
  refine ⟨fun σ H => ∃ (t f n d : Addr), σ = [some (.ref a), some (.ref o), some (.ref t), none, none, none, none, none, none, none, none, none, none, none, none] ∧ Lw K cx.Tiles cx.Floor H o t f n d x y z 0 a xs, ?_, ?_⟩
  · simp only [tSeq, tIfS, tOr, tAnd, tB, tTest, tCB, tCons, tVar, tC, tNil, tNot, tNotV, tRet, tRetN, tNext, tBreak, tOrV, tAndV, tOp, tUn, rEq, rNe, tChain, rI0, rI, rU, tAsg, gName, tDrop, tAug, ipI, tIf, tCall, tCallS, tLst, tTup, tBM, tBM0, rAppend, rExtend, rPop, rReverse, tyV, rIxL, rIxT, rIxS, rIsB, rNotB, L2.start, List.map_cons, List.map_nil, List.length_cons, List.length_nil, List.replicate, List.cons_append, List.nil_append, List.append_nil, List.getElem?_cons_zero, List.getElem?_cons_succ, List.set_cons_zero, List.set_cons_succ, Nat.reduceAdd, Nat.reduceSub, Option.some.injEq, exists_eq_left', exists_eq_left, V.int.injEq, V.bl.injEq, V.str.injEq, V.ref.injEq, List.cons.injEq, and_true, true_and, and_assoc, reduceCtorEq, false_and, exists_false, or_false, false_or, exists_and_left, exists_const, scal, Int.reduceLT, Int.reduceLE, Int.reduceSub, Int.reduceAdd, Int.reduceNeg, if_true, if_false, tMake]
    refine fun t dx ht hdx ne => ⟨t, o, dx, x, y, z, rfl, upd_same, ?_, fun f n d H' Tl hn hd fr => ?_⟩
    · exact G1.same ((FK.same_new hdx).trans (FK.same_new (by rw [upd_ne ne.symm]; exact ht)))
    · exact ⟨rfl, f, n, d, lw_new G1 sc1 ht ((FK.same_new hdx).trans (FK.same_new (by rw [upd_ne ne.symm]; exact ht))) Tl fr⟩
  rintro σ H2 ⟨t, f, n, d, rfl, W2⟩
  refine ⟨fun σ H => ∃ u : W, σ = [some (.ref a), some (.ref o), some (.ref t), some (.str (wS (u))), none, none, none, none, none, none, none, none, none, none, none] ∧ u.length ≤ 7 ∧ Lw K cx.Tiles cx.Floor H o t f n d x y z 0 a xs, ?_, ?_⟩
  · simp only [tSeq, tIfS, tOr, tAnd, tB, tTest, tCB, tCons, tVar, tC, tNil, tNot, tNotV, tRet, tRetN, tNext, tBreak, tOrV, tAndV, tOp, tUn, rEq, rNe, tChain, rI0, rI, rU, tAsg, gName, tDrop, tAug, ipI, tIf, tCall, tCallS, tLst, tTup, tBM, tBM0, rAppend, rExtend, rPop, rReverse, tyV, rIxL, rIxT, rIxS, rIsB, rNotB, L2.start, List.map_cons, List.map_nil, List.length_cons, List.length_nil, List.replicate, List.cons_append, List.nil_append, List.append_nil, List.getElem?_cons_zero, List.getElem?_cons_succ, List.set_cons_zero, List.set_cons_succ, Nat.reduceAdd, Nat.reduceSub, Option.some.injEq, exists_eq_left', exists_eq_left, V.int.injEq, V.bl.injEq, V.str.injEq, V.ref.injEq, List.cons.injEq, and_true, true_and, and_assoc, reduceCtorEq, false_and, exists_false, or_false, false_or, exists_and_left, exists_const, scal, Int.reduceLT, Int.reduceLE, Int.reduceSub, Int.reduceAdd, Int.reduceNeg, if_true, if_false]
    exact cell 1 W2.sc fun i => ⟨i, 7, rfl, by decide, fun u H' lu s' => ⟨u, rfl, lu, W2.same s'⟩⟩
  rintro σ H3 ⟨u, rfl, lu, W3⟩
  refine ⟨fun σ H => ∃ v : W, σ = [some (.ref a), some (.ref o), some (.ref t), some (.str (wS (u))), some (.str (wS (v))), none, none, none, none, none, none, none, none, none, none] ∧ v.length ≤ 7 ∧ Lw K cx.Tiles cx.Floor H o t f n d x y z 0 a xs, ?_, ?_⟩
  · simp only [tSeq, tIfS, tOr, tAnd, tB, tTest, tCB, tCons, tVar, tC, tNil, tNot, tNotV, tRet, tRetN, tNext, tBreak, tOrV, tAndV, tOp, tUn, rEq, rNe, tChain, rI0, rI, rU, tAsg, gName, tDrop, tAug, ipI, tIf, tCall, tCallS, tLst, tTup, tBM, tBM0, rAppend, rExtend, rPop, rReverse, tyV, rIxL, rIxT, rIxS, rIsB, rNotB, L2.start, List.map_cons, List.map_nil, List.length_cons, List.length_nil, List.replicate, List.cons_append, List.nil_append, List.append_nil, List.getElem?_cons_zero, List.getElem?_cons_succ, List.set_cons_zero, List.set_cons_succ, Nat.reduceAdd, Nat.reduceSub, Option.some.injEq, exists_eq_left', exists_eq_left, V.int.injEq, V.bl.injEq, V.str.injEq, V.ref.injEq, List.cons.injEq, and_true, true_and, and_assoc, reduceCtorEq, false_and, exists_false, or_false, false_or, exists_and_left, exists_const, scal, Int.reduceLT, Int.reduceLE, Int.reduceSub, Int.reduceAdd, Int.reduceNeg, if_true, if_false]
    exact cell 2 W3.sc fun i => ⟨i, 7, rfl, by decide, fun u H' lu s' => ⟨u, rfl, lu, W3.same s'⟩⟩
  rintro σ H4 ⟨v, rfl, lv, W4⟩
  refine ⟨fun σ H => ∃ (e : Addr) (i j : Fin 3), σ = [some (.ref a), some (.ref o), some (.ref t), some (.str (wS (u))), some (.str (wS (v))), some (.ref e), none, none, none, none, none, none, none, none, none] ∧ i ≠ j ∧ inPrs [wS [i], wS [j]] = true ∧ H e = some (.tup [.str (wS [i]), .str (wS [j])]) ∧ Lw K cx.Tiles cx.Floor H o t f n d x y z 0 a xs, ?_, ?_⟩
  · simp only [tSeq, tIfS, tOr, tAnd, tB, tTest, tCB, tCons, tVar, tC, tNil, tNot, tNotV, tRet, tRetN, tNext, tBreak, tOrV, tAndV, tOp, tUn, rEq, rNe, tChain, rI0, rI, rU, tAsg, gName, tDrop, tAug, ipI, tIf, tCall, tCallS, tLst, tTup, tBM, tBM0, rAppend, rExtend, rPop, rReverse, tyV, rIxL, rIxT, rIxS, rIsB, rNotB, L2.start, List.map_cons, List.map_nil, List.length_cons, List.length_nil, List.replicate, List.cons_append, List.nil_append, List.append_nil, List.getElem?_cons_zero, List.getElem?_cons_succ, List.set_cons_zero, List.set_cons_succ, Nat.reduceAdd, Nat.reduceSub, Option.some.injEq, exists_eq_left', exists_eq_left, V.int.injEq, V.bl.injEq, V.str.injEq, V.ref.injEq, List.cons.injEq, and_true, true_and, and_assoc, reduceCtorEq, false_and, exists_false, or_false, false_or, exists_and_left, exists_const, scal, Int.reduceLT, Int.reduceLE, Int.reduceSub, Int.reduceAdd, Int.reduceNeg, if_true, if_false]
    refine ⟨by decide, fun p1 h1 => ⟨by decide, fun p2 h2 => ⟨by decide, fun p3 h3 => ⟨by decide, fun p4 h4 => ?_⟩⟩⟩⟩
    have s3 := FK.same_new (o := HO.tup [.str "1", .str "2"]) h3
    have s4 := FK.same_new (o := HO.lst [.ref p1, .ref p2, .ref p3]) h4
    have s2 := FK.same_new (o := HO.tup [.str "0", .str "2"]) h2
    have s1 := FK.same_new (o := HO.tup [.str "0", .str "1"]) h1
    have sA := ((s1.trans s2).trans s3).trans s4
    have WA := W4.same sA
    refine cell 3 WA.sc fun r => ?_
    obtain ⟨e, i, j, q1, q2, q3, q4⟩ := cornr (r := r % 3) (Int.emod_nonneg _ (by decide)) (Int.emod_lt_of_pos _ (by decide)) (s4 _ _ (s3 _ _ (s2 _ _ upd_same))) (s4 _ _ (s3 _ _ upd_same)) (s4 _ _ upd_same)
    exact ⟨r, rfl, _, SqL.of upd_same, _, q1, e, rfl, i, j, q3, q4, q2, WA⟩
  rintro σ H5 ⟨e, i, j, rfl, hij, hpr, eE, W5⟩
  refine ⟨fun σ H => ∃ L : Addr, σ = [some (.ref a), some (.ref o), some (.ref t), some (.str (wS (u))), some (.str (wS (v))), some (.ref e), some (.ref L), none, none, none, none, none, none, none, none] ∧ Off K a xs L ∧ H L = some (.lst [.str (wS (nfw x y z v))]) ∧ H e = some (.tup [.str (wS [i]), .str (wS [j])]) ∧ Lw K cx.Tiles cx.Floor H o t f n d x y z 1 a xs, ?_, ?_⟩
  · simp only [tSeq, tIfS, tOr, tAnd, tB, tTest, tCB, tCons, tVar, tC, tNil, tNot, tNotV, tRet, tRetN, tNext, tBreak, tOrV, tAndV, tOp, tUn, rEq, rNe, tChain, rI0, rI, rU, tAsg, gName, tDrop, tAug, ipI, tIf, tCall, tCallS, tLst, tTup, tBM, tBM0, rAppend, rExtend, rPop, rReverse, tyV, rIxL, rIxT, rIxS, rIsB, rNotB, L2.start, List.map_cons, List.map_nil, List.length_cons, List.length_nil, List.replicate, List.cons_append, List.nil_append, List.append_nil, List.getElem?_cons_zero, List.getElem?_cons_succ, List.set_cons_zero, List.set_cons_succ, Nat.reduceAdd, Nat.reduceSub, Option.some.injEq, exists_eq_left', exists_eq_left, V.int.injEq, V.bl.injEq, V.str.injEq, V.ref.injEq, List.cons.injEq, and_true, true_and, and_assoc, reduceCtorEq, false_and, exists_false, or_false, false_or, exists_and_left, exists_const, scal, Int.reduceLT, Int.reduceLE, Int.reduceSub, Int.reduceAdd, Int.reduceNeg, if_true, if_false, tMeth]
    obtain ⟨dx, t1⟩ := W5.sv.tl.ob
    refine ⟨dx, _, t1, fldsT_no _ _ (by decide +kernel) (by decide +kernel), t, f, n, o, d, x, y, z, 0, v, rfl, W5.sv.tl, by omega, by omega, fun H6 Tl b2 => ⟨by decide, fun p hp => ?_⟩⟩
    have W6 := W5.nrm Tl b2
    exact ⟨W6.sc.off hp, upd_same, FK.same_new hp _ _ (W5.sv.tup b2 eE), W6.same (FK.same_new hp)⟩
  rintro σ H6 ⟨L, rfl, oL, eL, eE6, W6⟩
  have N := fun (w : W) (hw : w.length ≤ 500) => nfw_ok (a := x) (b := y) (c := z) G1.ha G1.hb G1.hc (w := w) (by omega)
  have Nl : ∀ (w : W), w.length ≤ 500 → (nfw x y z w).length ≤ w.length := fun w hw => by
    rw [(N w hw).2.2.1]
    exact ln_self w
  have Nc : ∀ {u v : W}, u.length ≤ 500 → v.length ≤ 500 → Eqv (om x y z) u v → nfw x y z u = nfw x y z v := fun hu hv h => nfw_congr G1.ha G1.hb G1.hc hu hv h
  refine ⟨fun σ H => ∃ (ar : List W) (v7 v11 v13 : Option V), σ = [some (.ref a), some (.ref o), some (.ref t), some (.str (wS (u))), some (.str (wS (v))), some (.ref e), some (.ref L), v7, none, none, none, v11, none, v13, none] ∧ H L = some (.lst ((ar.map wS).map V.str)) ∧ H e = some (.tup [.str (wS [i]), .str (wS [j])]) ∧ Aro (om x y z) (nfw x y z) i j v ar ∧ 0 < ar.length ∧ ar.length ≤ 40 ∧ Lw K cx.Tiles cx.Floor H o t f n d x y z 100 a xs, ?_, ?_⟩
  · simp only [tSeq, tIfS, tOr, tAnd, tB, tTest, tCB, tCons, tVar, tC, tNil, tNot, tNotV, tRet, tRetN, tNext, tBreak, tOrV, tAndV, tOp, tUn, rEq, rNe, tChain, rI0, rI, rU, tAsg, gName, tDrop, tAug, ipI, tIf, tCall, tCallS, tLst, tTup, tBM, tBM0, rAppend, rExtend, rPop, rReverse, tyV, rIxL, rIxT, rIxS, rIsB, rNotB, L2.start, List.map_cons, List.map_nil, List.length_cons, List.length_nil, List.replicate, List.cons_append, List.nil_append, List.append_nil, List.getElem?_cons_zero, List.getElem?_cons_succ, List.set_cons_zero, List.set_cons_succ, Nat.reduceAdd, Nat.reduceSub, Option.some.injEq, exists_eq_left', exists_eq_left, V.int.injEq, V.bl.injEq, V.str.injEq, V.ref.injEq, List.cons.injEq, and_true, true_and, and_assoc, reduceCtorEq, false_and, exists_false, or_false, false_or, exists_and_left, exists_const, scal, Int.reduceLT, Int.reduceLE, Int.reduceSub, Int.reduceAdd, Int.reduceNeg, if_true, if_false]
    refine FK.rd_for (J := Itr 0 2) (H1 := H6) (fun R r => by simp only [tSeq, tIfS, tOr, tAnd, tB, tTest, tCB, tCons, tVar, tC, tNil, tNot, tNotV, tRet, tRetN, tNext, tBreak, tOrV, tAndV, tOp, tUn, rEq, rNe, tChain, rI0, rI, rU, tAsg, gName, tDrop, tAug, ipI, tIf, tCall, tCallS, tLst, tTup, tBM, tBM0, rAppend, rExtend, rPop, rReverse, tyV, rIxL, rIxT, rIxS, rIsB, rNotB, L2.start, List.map_cons, List.map_nil, List.length_cons, List.length_nil, List.replicate, List.cons_append, List.nil_append, List.append_nil, List.getElem?_cons_zero, List.getElem?_cons_succ, List.set_cons_zero, List.set_cons_succ, Nat.reduceAdd, Nat.reduceSub, Option.some.injEq, exists_eq_left', exists_eq_left, V.int.injEq, V.bl.injEq, V.str.injEq, V.ref.injEq, List.cons.injEq, and_true, true_and, and_assoc, reduceCtorEq, false_and, exists_false, or_false, false_or, exists_and_left, exists_const, scal, Int.reduceLT, Int.reduceLE, Int.reduceSub, Int.reduceAdd, Int.reduceNeg, if_true, if_false, iRng1]; exact ⟨by decide, by decide, r⟩) walk_nat
      (fun fi σ H => ∃ (ar : List W) (v7 v11 v13 : Option V), σ = [some (.ref a), some (.ref o), some (.ref t), some (.str (wS (u))), some (.str (wS (v))), some (.ref e), some (.ref L), v7, none, none, none, v11, none, v13, none] ∧ H L = some (.lst ((ar.map wS).map V.str)) ∧ H e = some (.tup [.str (wS [i]), .str (wS [j])]) ∧ ArI x y z i j v ar fi ∧ ar.length ≤ 1 + 14 * fi ∧ Lw K cx.Tiles cx.Floor H o t f n d x y z (1 + 14 * fi) a xs)
      ⟨[nfw x y z v], none, none, none, rfl, eL, eE6, ?_, by simp, W6⟩ (fun _ _ _ _ _ => trivial) ?_ ?_
    · refine ⟨rfl, (List.pairwise_singleton _ _), fun z hz => ⟨[], .nil, by decide, by rw [List.mem_singleton.mp hz, List.append_nil]⟩, (fun h => absurd h (by decide)), (fun h => absurd h (by decide))⟩
    · rintro fi x' σ Ha Hb hfi ⟨ar, v7, v11, v13, rfl, eLa, eEa, hA, lA, Wa⟩ ⟨rfl, hx⟩
      obtain rfl : x' = .int (fi : Nat) := hx
      simp only [tSeq, tIfS, tOr, tAnd, tB, tTest, tCB, tCons, tVar, tC, tNil, tNot, tNotV, tRet, tRetN, tNext, tBreak, tOrV, tAndV, tOp, tUn, rEq, rNe, tChain, rI0, rI, rU, tAsg, gName, tDrop, tAug, ipI, tIf, tCall, tCallS, tLst, tTup, tBM, tBM0, rAppend, rExtend, rPop, rReverse, tyV, rIxL, rIxT, rIxS, rIsB, rNotB, L2.start, List.map_cons, List.map_nil, List.length_cons, List.length_nil, List.replicate, List.cons_append, List.nil_append, List.append_nil, List.getElem?_cons_zero, List.getElem?_cons_succ, List.set_cons_zero, List.set_cons_succ, Nat.reduceAdd, Nat.reduceSub, Option.some.injEq, exists_eq_left', exists_eq_left, V.int.injEq, V.bl.injEq, V.str.injEq, V.ref.injEq, List.cons.injEq, and_true, true_and, and_assoc, reduceCtorEq, false_and, exists_false, or_false, false_or, exists_and_left, exists_const, scal, Int.reduceLT, Int.reduceLE, Int.reduceSub, Int.reduceAdd, Int.reduceNeg, if_true, if_false]
      obtain ⟨p, q, hn, ht2, hp0, hp1⟩ := dirs hfi i j
      refine ⟨fun σ H => σ = [some (.ref a), some (.ref o), some (.ref t), some (.str (wS (u))), some (.str (wS (v))), some (.ref e), some (.ref L), some (V.int ((fi : Nat))), none, none, none, v11, none, some (.str (wS ((nfw x y z v)))), none] ∧ H = Hb, ?_, ?_⟩
      · simp only [tSeq, tIfS, tOr, tAnd, tB, tTest, tCB, tCons, tVar, tC, tNil, tNot, tNotV, tRet, tRetN, tNext, tBreak, tOrV, tAndV, tOp, tUn, rEq, rNe, tChain, rI0, rI, rU, tAsg, gName, tDrop, tAug, ipI, tIf, tCall, tCallS, tLst, tTup, tBM, tBM0, rAppend, rExtend, rPop, rReverse, tyV, rIxL, rIxT, rIxS, rIsB, rNotB, L2.start, List.map_cons, List.map_nil, List.length_cons, List.length_nil, List.replicate, List.cons_append, List.nil_append, List.append_nil, List.getElem?_cons_zero, List.getElem?_cons_succ, List.set_cons_zero, List.set_cons_succ, Nat.reduceAdd, Nat.reduceSub, Option.some.injEq, exists_eq_left', exists_eq_left, V.int.injEq, V.bl.injEq, V.str.injEq, V.ref.injEq, List.cons.injEq, and_true, true_and, and_assoc, reduceCtorEq, false_and, exists_false, or_false, false_or, exists_and_left, exists_const, scal, Int.reduceLT, Int.reduceLE, Int.reduceSub, Int.reduceAdd, Int.reduceNeg, if_true, if_false]
        exact ⟨_, SqL.of eLa, _, atI_nat (j := 0) (by rw [List.getElem?_map, List.getElem?_map, hA.hd]; rfl), rfl⟩
      rintro σ Hc ⟨rfl, rfl⟩
      refine FK.rd_for (J := Itr 0 14) (H1 := Hc) (fun R r => by simp only [tSeq, tIfS, tOr, tAnd, tB, tTest, tCB, tCons, tVar, tC, tNil, tNot, tNotV, tRet, tRetN, tNext, tBreak, tOrV, tAndV, tOp, tUn, rEq, rNe, tChain, rI0, rI, rU, tAsg, gName, tDrop, tAug, ipI, tIf, tCall, tCallS, tLst, tTup, tBM, tBM0, rAppend, rExtend, rPop, rReverse, tyV, rIxL, rIxT, rIxS, rIsB, rNotB, L2.start, List.map_cons, List.map_nil, List.length_cons, List.length_nil, List.replicate, List.cons_append, List.nil_append, List.append_nil, List.getElem?_cons_zero, List.getElem?_cons_succ, List.set_cons_zero, List.set_cons_succ, Nat.reduceAdd, Nat.reduceSub, Option.some.injEq, exists_eq_left', exists_eq_left, V.int.injEq, V.bl.injEq, V.str.injEq, V.ref.injEq, List.cons.injEq, and_true, true_and, and_assoc, reduceCtorEq, false_and, exists_false, or_false, false_or, exists_and_left, exists_const, scal, Int.reduceLT, Int.reduceLE, Int.reduceSub, Int.reduceAdd, Int.reduceNeg, if_true, if_false, iRng1]; exact ⟨by decide, by decide, r⟩) walk_nat
        (fun k σ H => ∃ (ar : List W) (v11 : Option V), σ = [some (.ref a), some (.ref o), some (.ref t), some (.str (wS (u))), some (.str (wS (v))), some (.ref e), some (.ref L), some (V.int ((fi : Nat))), none, none, none, v11, none, some (.str (wS ((nfw x y z (v ++ alt p q k))))), none] ∧ H L = some (.lst ((ar.map wS).map V.str)) ∧ H e = some (.tup [.str (wS [i]), .str (wS [j])]) ∧ ArI x y z i j v ar fi ∧
          (∀ k', k' ≤ k → nfw x y z (v ++ alt p q k') ∈ ar) ∧ ar.length ≤ 1 + 14 * fi + k ∧ Lw K cx.Tiles cx.Floor H o t f n d x y z (1 + 14 * fi + k) a xs)
        ⟨ar, v11, by rw [show v ++ alt p q 0 = v from List.append_nil v], eLa, eEa, hA, ?_, lA, Wa⟩ (fun _ _ _ _ _ => trivial) ?_ ?_
      · intro k' hk'
        obtain rfl : k' = 0 := by omega
        rw [show v ++ alt p q 0 = v from List.append_nil v]
        exact List.mem_of_getElem? hA.hd
      · rintro k x' σ Hd He hk ⟨ar, v11, rfl, eLd, eEd, hAd, hc, ld, Wd⟩ ⟨rfl, hx⟩
        obtain rfl : x' = .int (k : Nat) := hx
        simp only [tSeq, tIfS, tOr, tAnd, tB, tTest, tCB, tCons, tVar, tC, tNil, tNot, tNotV, tRet, tRetN, tNext, tBreak, tOrV, tAndV, tOp, tUn, rEq, rNe, tChain, rI0, rI, rU, tAsg, gName, tDrop, tAug, ipI, tIf, tCall, tCallS, tLst, tTup, tBM, tBM0, rAppend, rExtend, rPop, rReverse, tyV, rIxL, rIxT, rIxS, rIsB, rNotB, L2.start, List.map_cons, List.map_nil, List.length_cons, List.length_nil, List.replicate, List.cons_append, List.nil_append, List.append_nil, List.getElem?_cons_zero, List.getElem?_cons_succ, List.set_cons_zero, List.set_cons_succ, Nat.reduceAdd, Nat.reduceSub, Option.some.injEq, exists_eq_left', exists_eq_left, V.int.injEq, V.bl.injEq, V.str.injEq, V.ref.injEq, List.cons.injEq, and_true, true_and, and_assoc, reduceCtorEq, false_and, exists_false, or_false, false_or, exists_and_left, exists_const, scal, Int.reduceLT, Int.reduceLE, Int.reduceSub, Int.reduceAdd, Int.reduceNeg, if_true, if_false]
        have lap : (alt p q k).length = k := alt_length p q k
        have lap1 : (alt p q (k + 1)).length = k + 1 := alt_length p q (k + 1)
        have lnk : (nfw x y z (v ++ alt p q k)).length ≤ 30 := by
          have := Nl (v ++ alt p q k) (by rw [List.length_append]; omega)
          rw [List.length_append] at this
          omega
        have eqn : nfw x y z (nfw x y z (v ++ alt p q k) ++ [nth p q k]) = nfw x y z (v ++ alt p q (k + 1)) := by
          refine Nc (by rw [List.length_append, List.length_singleton]; omega) (by rw [List.length_append]; omega) ?_
          have h1 := ((N (v ++ alt p q k) (by rw [List.length_append]; omega)).1.symm).right [nth p q k]
          rw [List.append_assoc, ← alt_snoc] at h1
          exact h1
        refine ⟨fun σ H => σ = [some (.ref a), some (.ref o), some (.ref t), some (.str (wS (u))), some (.str (wS (v))), some (.ref e), some (.ref L), some (V.int ((fi : Nat))), none, none, none, some (V.int ((k : Nat))), none, some (.str (wS ((nfw x y z (v ++ alt p q (k + 1)))))), none] ∧ H L = some (.lst ((ar.map wS).map V.str)) ∧ H e = some (.tup [.str (wS [i]), .str (wS [j])]) ∧ Lw K cx.Tiles cx.Floor H o t f n d x y z (1 + 14 * fi + (k + 1)) a xs, ?_, ?_⟩
        · simp only [tSeq, tIfS, tOr, tAnd, tB, tTest, tCB, tCons, tVar, tC, tNil, tNot, tNotV, tRet, tRetN, tNext, tBreak, tOrV, tAndV, tOp, tUn, rEq, rNe, tChain, rI0, rI, rU, tAsg, gName, tDrop, tAug, ipI, tIf, tCall, tCallS, tLst, tTup, tBM, tBM0, rAppend, rExtend, rPop, rReverse, tyV, rIxL, rIxT, rIxS, rIsB, rNotB, L2.start, List.map_cons, List.map_nil, List.length_cons, List.length_nil, List.replicate, List.cons_append, List.nil_append, List.append_nil, List.getElem?_cons_zero, List.getElem?_cons_succ, List.set_cons_zero, List.set_cons_succ, Nat.reduceAdd, Nat.reduceSub, Option.some.injEq, exists_eq_left', exists_eq_left, V.int.injEq, V.bl.injEq, V.str.injEq, V.ref.injEq, List.cons.injEq, and_true, true_and, and_assoc, reduceCtorEq, false_and, exists_false, or_false, false_or, exists_and_left, exists_const, scal, Int.reduceLT, Int.reduceLE, Int.reduceSub, Int.reduceAdd, Int.reduceNeg, if_true, if_false, tMeth]
          obtain ⟨dx, t1⟩ := Wd.sv.tl.ob
          refine ⟨dx, _, t1, fldsT_no _ _ (by decide +kernel) (by decide +kernel), _, SqT.of eEd, _, hn k, t, f, n, o, d, x, y, z, _, _, _, rfl, Wd.sv.tl, by omega, by omega, fun H6 Tl b2 => ?_⟩
          rw [eqn]
          exact ⟨rfl, Wd.sv.lst b2 eLd, Wd.sv.tup b2 eEd, Wd.nrm Tl b2⟩
        rintro σ Hf ⟨rfl, eLf, eEf, Wf⟩
        simp only [tSeq, tIfS, tOr, tAnd, tB, tTest, tCB, tCons, tVar, tC, tNil, tNot, tNotV, tRet, tRetN, tNext, tBreak, tOrV, tAndV, tOp, tUn, rEq, rNe, tChain, rI0, rI, rU, tAsg, gName, tDrop, tAug, ipI, tIf, tCall, tCallS, tLst, tTup, tBM, tBM0, rAppend, rExtend, rPop, rReverse, tyV, rIxL, rIxT, rIxS, rIsB, rNotB, L2.start, List.map_cons, List.map_nil, List.length_cons, List.length_nil, List.replicate, List.cons_append, List.nil_append, List.append_nil, List.getElem?_cons_zero, List.getElem?_cons_succ, List.set_cons_zero, List.set_cons_succ, Nat.reduceAdd, Nat.reduceSub, Option.some.injEq, exists_eq_left', exists_eq_left, V.int.injEq, V.bl.injEq, V.str.injEq, V.ref.injEq, List.cons.injEq, and_true, true_and, and_assoc, reduceCtorEq, false_and, exists_false, or_false, false_or, exists_and_left, exists_const, scal, Int.reduceLT, Int.reduceLE, Int.reduceSub, Int.reduceAdd, Int.reduceNeg, if_true, if_false]
        refine ⟨_, _, rfl, .inl (SqL.of eLf), rfl, flat_words _, _, rfl, ?_⟩
        show if (!inV _ _) = true then _ else _
        rw [inV_wS]
        by_cases c : nfw x y z (v ++ alt p q (k + 1)) ∈ ar
        · refine iteF' (by simp [c]) ⟨ar, eLf, eEf, hAd, fun k' hk' => ?_, by omega, Wf⟩
          rcases Nat.lt_or_ge k k' with h | h
          · obtain rfl : k' = k + 1 := by omega
            exact c
          · exact hc k' h
        · refine iteT' (by simp [c]) ⟨.inl ⟨_, SqL.of eLf⟩, _, eLf, ?_, ar ++ [nfw x y z (v ++ alt p q (k + 1))], ?_, ?_, hAd.put c (ht2 (k + 1)) (by omega) rfl, fun k' hk' => ?_, by rw [List.length_append, List.length_singleton]; omega, Wf.upd eLf oL⟩
          · rw [List.length_map, List.length_map]
            exact Nat.lt_of_le_of_lt (show ar.length ≤ 1000 by omega) (by decide)
          · rw [upd_same, List.map_append, List.map_append]
            rfl
          · rw [upd_ne (fun q => by rw [q, eLf] at eEf; cases eEf)]
            exact eEf
          · rcases Nat.lt_or_ge k k' with h | h
            · obtain rfl : k' = k + 1 := by omega
              exact List.mem_append_right _ (List.mem_singleton.mpr rfl)
            · exact List.mem_append_left _ (hc k' h)
      · rintro σ Hd ⟨ar, v11, rfl, eLd, eEd, hAd, hc, ld, Wd⟩
        refine ⟨ar, _, _, _, rfl, eLd, eEd, ⟨hAd.hd, hAd.nd, hAd.of, fun h1 k hk => ?_, fun h1 k hk => ?_⟩, by omega, Wd.mono (by omega)⟩
        · by_cases c : fi = 0
          · obtain ⟨rfl, rfl⟩ := hp0 c
            exact hc k hk
          · exact hAd.one (by omega) k hk
        · by_cases c : fi = 1
          · obtain ⟨rfl, rfl⟩ := hp1 c
            exact hc k hk
          · omega
    · rintro σ Ha ⟨ar, v7, v11, v13, rfl, eLa, eEa, hA, lA, Wa⟩
      exact ⟨ar, v7, v11, v13, rfl, eLa, eEa, ⟨hA.nd, hA.of, fun k hk => ⟨hA.one (by decide) k hk, hA.two (by decide) k hk⟩⟩, List.length_pos_of_mem (List.mem_of_getElem? hA.hd), by omega, Wa.mono (by omega)⟩
  rintro σ H7 ⟨ar, v7, v11, v13, rfl, eL7, eE7, A7, la0, la7, W7⟩
  have hlL : ((ar.map wS).map V.str).length = ar.length := by simp
  have arl : ∀ w ∈ ar, w.length ≤ 30 := fun w hw => by
    obtain ⟨yy, _, l2, rfl⟩ := A7.of w hw
    have := Nl (v ++ yy) (by rw [List.length_append]; omega)
    rw [List.length_append] at this
    omega
  have lgl : ∀ w ∈ ar, (nfw x y z (u.reverse ++ w)).length ≤ 40 := fun w hw => by
    have l1 := arl w hw
    have := Nl (u.reverse ++ w) (by rw [List.length_append, List.length_reverse]; omega)
    rw [List.length_append, List.length_reverse] at this
    omega
  refine ⟨fun σ H => ∃ M : Addr, σ = [some (.ref a), some (.ref o), some (.ref t), some (.str (wS (u))), some (.str (wS (v))), some (.ref e), some (.ref L), v7, some (.ref M), none, none, v11, none, v13, none] ∧ H M = some (.lst (ar.map fun w => V.int ((nfw x y z (u.reverse ++ w)).length : Nat))) ∧ H L = some (.lst ((ar.map wS).map V.str)) ∧ H e = some (.tup [.str (wS [i]), .str (wS [j])]) ∧ Lw K cx.Tiles cx.Floor H o t f n d x y z 200 a xs, ?_, ?_⟩
  · simp only [tSeq, tIfS, tOr, tAnd, tB, tTest, tCB, tCons, tVar, tC, tNil, tNot, tNotV, tRet, tRetN, tNext, tBreak, tOrV, tAndV, tOp, tUn, rEq, rNe, tChain, rI0, rI, rU, tAsg, gName, tDrop, tAug, ipI, tIf, tCall, tCallS, tLst, tTup, tBM, tBM0, rAppend, rExtend, rPop, rReverse, tyV, rIxL, rIxT, rIxS, rIsB, rNotB, L2.start, List.map_cons, List.map_nil, List.length_cons, List.length_nil, List.replicate, List.cons_append, List.nil_append, List.append_nil, List.getElem?_cons_zero, List.getElem?_cons_succ, List.set_cons_zero, List.set_cons_succ, Nat.reduceAdd, Nat.reduceSub, Option.some.injEq, exists_eq_left', exists_eq_left, V.int.injEq, V.bl.injEq, V.str.injEq, V.ref.injEq, List.cons.injEq, and_true, true_and, and_assoc, reduceCtorEq, false_and, exists_false, or_false, false_or, exists_and_left, exists_const, scal, Int.reduceLT, Int.reduceLE, Int.reduceSub, Int.reduceAdd, Int.reduceNeg, if_true, if_false]
    refine FK.rd_lc (J := Itl K L) (H1 := H7) (n := ar.length) (fun R r => ⟨_, rfl, L, rfl, ⟨_, SqL.of eL7⟩, r⟩) (by rw [← hlL]; exact walk_list (xs := (ar.map wS).map V.str)) (LnP K cx.Tiles cx.Floor o t f n d a x y z xs L e ar i j u) ?_ ?_ (fun _ _ _ _ h => SqL.of h.2.1) (Nat.lt_of_le_of_lt la7 (by decide)) (fun _ => rfl) ?_ ?_
    · intro D hD
      exact ⟨rfl, FK.same_new hD _ _ eL7, FK.same_new hD _ _ eE7, W7.same (FK.same_new hD)⟩
    · rintro D k acc y0 H' hD hD2 ⟨e1, e2, e3, e4⟩
      refine ⟨e1, ?_, ?_, e4.upd hD2 (W7.sc.off hD)⟩
      · rw [upd_ne (fun q => by rw [q, hD] at eL7; cases eL7)]; exact e2
      · rw [upd_ne (fun q => by rw [q, hD] at eE7; cases eE7)]; exact e3
    · rintro D k x' acc Ha Hb R hD hk la ⟨e1, e2, e3, e4⟩ hD2 ⟨rfl, hx⟩ go
      have hwk : ar[k]? = some (ar[k]'hk) := List.getElem?_eq_getElem hk
      rw [List.getElem?_map, List.getElem?_map, hwk] at hx
      cases hx
      have l1 := arl _ (List.getElem_mem hk)
      have l2 := lgl _ (List.getElem_mem hk)
      simp only [tSeq, tIfS, tOr, tAnd, tB, tTest, tCB, tCons, tVar, tC, tNil, tNot, tNotV, tRet, tRetN, tNext, tBreak, tOrV, tAndV, tOp, tUn, rEq, rNe, tChain, rI0, rI, rU, tAsg, gName, tDrop, tAug, ipI, tIf, tCall, tCallS, tLst, tTup, tBM, tBM0, rAppend, rExtend, rPop, rReverse, tyV, rIxL, rIxT, rIxS, rIsB, rNotB, L2.start, List.map_cons, List.map_nil, List.length_cons, List.length_nil, List.replicate, List.cons_append, List.nil_append, List.append_nil, List.getElem?_cons_zero, List.getElem?_cons_succ, List.set_cons_zero, List.set_cons_succ, Nat.reduceAdd, Nat.reduceSub, Option.some.injEq, exists_eq_left', exists_eq_left, V.int.injEq, V.bl.injEq, V.str.injEq, V.ref.injEq, List.cons.injEq, and_true, true_and, and_assoc, reduceCtorEq, false_and, exists_false, or_false, false_or, exists_and_left, exists_const, scal, Int.reduceLT, Int.reduceLE, Int.reduceSub, Int.reduceAdd, Int.reduceNeg, if_true, if_false, tMeth, FK.tRevS, wipe]
      obtain ⟨dx, t1⟩ := e4.sv.tl.ob
      refine ⟨dx, _, t1, fldsT_no _ _ (by decide +kernel) (by decide +kernel), zw (by omega), ?_⟩
      rw [wS_rev, wS_app]
      refine ⟨by rw [wS_len, wS_len, List.length_reverse]; exact zl _ (by omega), t, f, n, o, d, x, y, z, _, _, rfl, e4.sv.tl, by rw [List.length_append, List.length_reverse]; omega, by omega, fun H6 Tl b2 => ⟨_, rfl, zw (by omega), ?_⟩⟩
      rw [wS_len]
      refine go _ H6 (e4.sv.lst b2 hD2) ⟨?_, e4.sv.lst b2 e2, e4.sv.tup b2 e3, e4.nrm Tl b2⟩
      rw [List.take_add_one, hwk, e1, List.map_append]
      rfl
    · rintro D acc H' hD la ⟨e1, e2, e3, e4⟩ hD2
      rw [List.take_length] at e1
      subst e1
      exact ⟨D, rfl, hD2, e2, e3, e4.mono (by omega)⟩
  rintro σ H8 ⟨M, rfl, eM8, eL8, eE8, W8⟩
  obtain ⟨_, _, _, _, _, _, _, _, _, O⟩ := ord_ex G1.ha G1.hb G1.hc
  have NF : NFc (om x y z) (nfw x y z) := ⟨fun w hw => (N w (by omega)).1, fun w hw => (N w (by omega)).2.1, fun w1 w2 h1 h2 h => Nc (by omega) (by omega) h⟩
  have l14 : (nfw x y z (u.reverse ++ v)).length ≤ 14 := by
    have := Nl (u.reverse ++ v) (by rw [List.length_append, List.length_reverse]; omega)
    rw [List.length_append, List.length_reverse] at this
    omega
  obtain ⟨p, Gp, lp⟩ := gt_ex (m := om x y z) (i := i) (j := j) _ (nfw x y z (u.reverse ++ v)) (Nat.le_refl _) (N (u.reverse ++ v) (by rw [List.length_append, List.length_reverse]; omega)).2.1
  obtain ⟨m0, m1, m2, m3, m4⟩ := gate_law O NF hij (by omega) (by omega) (by omega) l14 A7 Gp
  generalize nfw x y z (u ++ p) = tt at m0 m1 m2 m3 m4
  obtain ⟨k0, hk0, ek0⟩ := List.mem_iff_getElem.mp m0
  have lI : (ar.map fun w => V.int ((nfw x y z (u.reverse ++ w)).length : Nat)) = (ar.map fun w => ((nfw x y z (u.reverse ++ w)).length : Int)).map V.int := by rw [List.map_map]; rfl
  have hmin : ∀ {H' : Hp} {Q : VK}, H' M = some (.lst (ar.map fun w => V.int ((nfw x y z (u.reverse ++ w)).length : Nat))) → Q (.int (p.length : Nat)) H' → rMin K [.ref M] H' Q := fun {H' Q} h q => by
    rw [lI] at h
    refine ⟨M, _, rfl, SqL.of h, by rw [List.length_map]; exact la0, fun mm hm hle => ?_⟩
    obtain ⟨w, hw, rfl⟩ := List.mem_map.mp hm
    have h1 := hle _ (List.mem_map.mpr ⟨tt, m0, rfl⟩)
    rw [m3] at h1
    have h2 := m1 w hw
    rw [show ((nfw x y z (u.reverse ++ w)).length : Int) = (p.length : Nat) by omega]
    exact q
  have atM : ∀ k (hk : k < ar.length), atI (ar.map fun w => V.int ((nfw x y z (u.reverse ++ w)).length : Nat)) (k : Int) = some (.int ((nfw x y z (u.reverse ++ ar[k])).length : Nat)) := fun k hk => atI_nat (by rw [List.getElem?_map, List.getElem?_eq_getElem hk]; rfl)
  have atL : ∀ k (hk : k < ar.length), atI ((ar.map wS).map V.str) (k : Int) = some (.str (wS ar[k])) := fun k hk => atI_nat (by rw [List.getElem?_map, List.getElem?_map, List.getElem?_eq_getElem hk]; rfl)
  have getDl : ∀ k (hk : k < ar.length), (ar.map fun w => ((nfw x y z (u.reverse ++ w)).length : Int)).getD k (-1) = ((nfw x y z (u.reverse ++ ar[k])).length : Int) := fun k hk => by
    rw [List.getD_eq_getElem?_getD, List.getElem?_map, List.getElem?_eq_getElem hk]
    rfl
  refine ⟨fun σ H => ∃ M2 : Addr, σ = [some (.ref a), some (.ref o), some (.ref t), some (.str (wS (u))), some (.str (wS (v))), some (.ref e), some (.ref L), v7, some (.ref M), some (.ref M2), none, v11, none, v13, none] ∧ H M2 = some (.lst [.str (wS tt)]) ∧ H M = some (.lst (ar.map fun w => V.int ((nfw x y z (u.reverse ++ w)).length : Nat))) ∧ H L = some (.lst ((ar.map wS).map V.str)) ∧ H e = some (.tup [.str (wS [i]), .str (wS [j])]) ∧ Lw K cx.Tiles cx.Floor H o t f n d x y z 200 a xs, ?_, ?_⟩
  · simp only [tSeq, tIfS, tOr, tAnd, tB, tTest, tCB, tCons, tVar, tC, tNil, tNot, tNotV, tRet, tRetN, tNext, tBreak, tOrV, tAndV, tOp, tUn, rEq, rNe, tChain, rI0, rI, rU, tAsg, gName, tDrop, tAug, ipI, tIf, tCall, tCallS, tLst, tTup, tBM, tBM0, rAppend, rExtend, rPop, rReverse, tyV, rIxL, rIxT, rIxS, rIsB, rNotB, L2.start, List.map_cons, List.map_nil, List.length_cons, List.length_nil, List.replicate, List.cons_append, List.nil_append, List.append_nil, List.getElem?_cons_zero, List.getElem?_cons_succ, List.set_cons_zero, List.set_cons_succ, Nat.reduceAdd, Nat.reduceSub, Option.some.injEq, exists_eq_left', exists_eq_left, V.int.injEq, V.bl.injEq, V.str.injEq, V.ref.injEq, List.cons.injEq, and_true, true_and, and_assoc, reduceCtorEq, false_and, exists_false, or_false, false_or, exists_and_left, exists_const, scal, Int.reduceLT, Int.reduceLE, Int.reduceSub, Int.reduceAdd, Int.reduceNeg, if_true, if_false]
    refine rd_lc_filterH (J := Itr 0 ar.length) (H1 := H8) ((List.range ar.length).map fun k => V.int (k : Nat)) (pickP (ar.map fun w => ((nfw x y z (u.reverse ++ w)).length : Int)) (p.length : Nat)) (pickF ar) (fun R r => by
      simp only [tSeq, tIfS, tOr, tAnd, tB, tTest, tCB, tCons, tVar, tC, tNil, tNot, tNotV, tRet, tRetN, tNext, tBreak, tOrV, tAndV, tOp, tUn, rEq, rNe, tChain, rI0, rI, rU, tAsg, gName, tDrop, tAug, ipI, tIf, tCall, tCallS, tLst, tTup, tBM, tBM0, rAppend, rExtend, rPop, rReverse, tyV, rIxL, rIxT, rIxS, rIsB, rNotB, L2.start, List.map_cons, List.map_nil, List.length_cons, List.length_nil, List.replicate, List.cons_append, List.nil_append, List.append_nil, List.getElem?_cons_zero, List.getElem?_cons_succ, List.set_cons_zero, List.set_cons_succ, Nat.reduceAdd, Nat.reduceSub, Option.some.injEq, exists_eq_left', exists_eq_left, V.int.injEq, V.bl.injEq, V.str.injEq, V.ref.injEq, List.cons.injEq, and_true, true_and, and_assoc, reduceCtorEq, false_and, exists_false, or_false, false_or, exists_and_left, exists_const, scal, Int.reduceLT, Int.reduceLE, Int.reduceSub, Int.reduceAdd, Int.reduceNeg, if_true, if_false, iRng1]
      exact ⟨_, .inl (SqL.of eL8), by omega, by rw [hlL]; omega, by rw [hlL]; exact r⟩) FK.walk_natY (fun _ _ _ => trivial) (by rw [List.length_map, List.length_range]; exact Nat.lt_of_le_of_lt la7 (by decide)) (fun _ => rfl) ?_ ?_ ?_
    · rintro x' D l R hD hx r
      obtain ⟨k, hk, rfl⟩ := List.mem_map.mp hx
      have hk := List.mem_range.mp hk
      simp only [tSeq, tIfS, tOr, tAnd, tB, tTest, tCB, tCons, tVar, tC, tNil, tNot, tNotV, tRet, tRetN, tNext, tBreak, tOrV, tAndV, tOp, tUn, rEq, rNe, tChain, rI0, rI, rU, tAsg, gName, tDrop, tAug, ipI, tIf, tCall, tCallS, tLst, tTup, tBM, tBM0, rAppend, rExtend, rPop, rReverse, tyV, rIxL, rIxT, rIxS, rIsB, rNotB, L2.start, List.map_cons, List.map_nil, List.length_cons, List.length_nil, List.replicate, List.cons_append, List.nil_append, List.append_nil, List.getElem?_cons_zero, List.getElem?_cons_succ, List.set_cons_zero, List.set_cons_succ, Nat.reduceAdd, Nat.reduceSub, Option.some.injEq, exists_eq_left', exists_eq_left, V.int.injEq, V.bl.injEq, V.str.injEq, V.ref.injEq, List.cons.injEq, and_true, true_and, and_assoc, reduceCtorEq, false_and, exists_false, or_false, false_or, exists_and_left, exists_const, scal, Int.reduceLT, Int.reduceLE, Int.reduceSub, Int.reduceAdd, Int.reduceNeg, if_true, if_false, wipe]
      refine ⟨_, SqL.of (FK.same_new hD _ _ eM8), _, atM k hk, hmin (FK.same_new hD _ _ eM8) ⟨rfl, ?_⟩⟩
      have e1 : pickP (ar.map fun w => ((nfw x y z (u.reverse ++ w)).length : Int)) (p.length : Nat) (V.int (k : Nat)) = decide (V.int ((nfw x y z (u.reverse ++ ar[k])).length : Nat) = V.int (p.length : Nat)) := by
        show decide _ = _
        rw [Int.toNat_natCast, getDl k hk]
        exact decide_eq_decide.2 ⟨fun h => by rw [h], fun h => V.int.inj h⟩
      rw [e1] at r
      exact r
    · rintro x' D l R hD hx _ r
      obtain ⟨k, hk, rfl⟩ := List.mem_map.mp hx
      have hk := List.mem_range.mp hk
      simp only [tSeq, tIfS, tOr, tAnd, tB, tTest, tCB, tCons, tVar, tC, tNil, tNot, tNotV, tRet, tRetN, tNext, tBreak, tOrV, tAndV, tOp, tUn, rEq, rNe, tChain, rI0, rI, rU, tAsg, gName, tDrop, tAug, ipI, tIf, tCall, tCallS, tLst, tTup, tBM, tBM0, rAppend, rExtend, rPop, rReverse, tyV, rIxL, rIxT, rIxS, rIsB, rNotB, L2.start, List.map_cons, List.map_nil, List.length_cons, List.length_nil, List.replicate, List.cons_append, List.nil_append, List.append_nil, List.getElem?_cons_zero, List.getElem?_cons_succ, List.set_cons_zero, List.set_cons_succ, Nat.reduceAdd, Nat.reduceSub, Option.some.injEq, exists_eq_left', exists_eq_left, V.int.injEq, V.bl.injEq, V.str.injEq, V.ref.injEq, List.cons.injEq, and_true, true_and, and_assoc, reduceCtorEq, false_and, exists_false, or_false, false_or, exists_and_left, exists_const, scal, Int.reduceLT, Int.reduceLE, Int.reduceSub, Int.reduceAdd, Int.reduceNeg, if_true, if_false, wipe]
      refine ⟨_, SqL.of (FK.same_new hD _ _ eL8), _, atL k hk, ?_⟩
      have e1 : pickF ar (V.int (k : Nat)) = V.str (wS ar[k]) := by
        show V.str (wS (ar.getD ((k : Nat) : Int).toNat [])) = _
        rw [Int.toNat_natCast, List.getD_eq_getElem?_getD, List.getElem?_eq_getElem hk]
        rfl
      rw [e1] at r
      exact r
    · intro D hD
      rw [pick_one hk0 (fun k hk => ?_)]
      · refine ⟨D, rfl, ?_, FK.same_new hD _ _ eM8, FK.same_new hD _ _ eL8, FK.same_new hD _ _ eE8, W8.same (FK.same_new hD)⟩
        rw [upd_same, List.getD_eq_getElem?_getD, List.getElem?_eq_getElem hk0, Option.getD_some, ek0]
      · rw [getDl k hk]
        constructor
        · intro h
          have h2 := m2 _ (List.getElem_mem hk) (by omega)
          exact (List.getElem_inj A7.nd).mp (h2.trans ek0.symm)
        · rintro rfl
          rw [ek0, m3]
  rintro σ H9 ⟨M2, rfl, eN9, eM9, eL9, eE9, W9⟩
  have lar : ∀ k (hk : k < ar.length), ar[k].length ≤ 30 := fun k hk => arl _ (List.getElem_mem hk)
  have ltt : tt.length ≤ 30 := arl _ m0
  have m5 : ∀ p', p'.length ≤ 60 → Gt (om x y z) i j (nfw x y z (u.reverse ++ v)) p' → nfw x y z (u ++ p') = tt := fun p' l' G' => by
    have h0 := (A7.all 0 (by decide)).1
    rw [show v ++ alt i j 0 = v from List.append_nil v] at h0
    refine m4 _ h0 p' l' ?_
    have e1 : nfw x y z (u.reverse ++ nfw x y z v) = nfw x y z (u.reverse ++ v) := by
      have := Nl v (by omega)
      exact Nc (by rw [List.length_append, List.length_reverse]; omega) (by rw [List.length_append, List.length_reverse]; omega) ((N v (by omega)).1.symm.left _)
    rw [e1]
    exact G'
  refine ⟨fun σ H => σ = [some (.ref a), some (.ref o), some (.ref t), some (.str (wS (u))), some (.str (wS (v))), some (.ref e), some (.ref L), v7, some (.ref M), some (.ref M2), some (.str (wS (tt))), v11, none, v13, none] ∧ H M2 = some (.lst [.str (wS tt)]) ∧ H M = some (.lst (ar.map fun w => V.int ((nfw x y z (u.reverse ++ w)).length : Nat))) ∧ H L = some (.lst ((ar.map wS).map V.str)) ∧ H e = some (.tup [.str (wS [i]), .str (wS [j])]) ∧ Lw K cx.Tiles cx.Floor H o t f n d x y z 200 a xs, ?_, ?_⟩
  · simp only [tSeq, tIfS, tOr, tAnd, tB, tTest, tCB, tCons, tVar, tC, tNil, tNot, tNotV, tRet, tRetN, tNext, tBreak, tOrV, tAndV, tOp, tUn, rEq, rNe, tChain, rI0, rI, rU, tAsg, gName, tDrop, tAug, ipI, tIf, tCall, tCallS, tLst, tTup, tBM, tBM0, rAppend, rExtend, rPop, rReverse, tyV, rIxL, rIxT, rIxS, rIsB, rNotB, L2.start, List.map_cons, List.map_nil, List.length_cons, List.length_nil, List.replicate, List.cons_append, List.nil_append, List.append_nil, List.getElem?_cons_zero, List.getElem?_cons_succ, List.set_cons_zero, List.set_cons_succ, Nat.reduceAdd, Nat.reduceSub, Option.some.injEq, exists_eq_left', exists_eq_left, V.int.injEq, V.bl.injEq, V.str.injEq, V.ref.injEq, List.cons.injEq, and_true, true_and, and_assoc, reduceCtorEq, false_and, exists_false, or_false, false_or, exists_and_left, exists_const, scal, Int.reduceLT, Int.reduceLE, Int.reduceSub, Int.reduceAdd, Int.reduceNeg, if_true, if_false]
    refine told_w W9.sv.g eE9 (by omega) hpr fun p' H' G' l' s' => ?_
    rw [m5 p' l' G']
    exact ⟨rfl, s' _ _ eN9, s' _ _ eM9, s' _ _ eL9, s' _ _ eE9, W9.same s'⟩
  rintro σ H10 ⟨rfl, eN10, eM10, eL10, eE10, W10⟩
  obtain ⟨ptt, r1, r2, r3, r4, r5⟩ := txt_pd (K := K) (u := tt) (by omega)
  refine ⟨fun σ H => σ = [some (.ref a), some (.ref o), some (.ref t), some (.str (wS (u))), some (.str (wS (v))), some (.ref e), some (.ref L), v7, some (.ref M), some (.ref M2), some (.str (wS (tt))), v11, none, v13, none] ∧ H = H10, ?_, ?_⟩
  · simp only [tSeq, tIfS, tOr, tAnd, tB, tTest, tCB, tCons, tVar, tC, tNil, tNot, tNotV, tRet, tRetN, tNext, tBreak, tOrV, tAndV, tOp, tUn, rEq, rNe, tChain, rI0, rI, rU, tAsg, gName, tDrop, tAug, ipI, tIf, tCall, tCallS, tLst, tTup, tBM, tBM0, rAppend, rExtend, rPop, rReverse, tyV, rIxL, rIxT, rIxS, rIsB, rNotB, L2.start, List.map_cons, List.map_nil, List.length_cons, List.length_nil, List.replicate, List.cons_append, List.nil_append, List.append_nil, List.getElem?_cons_zero, List.getElem?_cons_succ, List.set_cons_zero, List.set_cons_succ, Nat.reduceAdd, Nat.reduceSub, Option.some.injEq, exists_eq_left', exists_eq_left, V.int.injEq, V.bl.injEq, V.str.injEq, V.ref.injEq, List.cons.injEq, and_true, true_and, and_assoc, reduceCtorEq, false_and, exists_false, or_false, false_or, exists_and_left, exists_const, scal, Int.reduceLT, Int.reduceLE, Int.reduceSub, Int.reduceAdd, Int.reduceNeg, if_true, if_false]
    exact ⟨_, .inl (SqL.of eN10), iteF' (by simp) ⟨_, ptt, rfl, r1 _, r2, r3, r4, r5, _, SqL.of eN10, _, atI_nat (j := 0) rfl, ⟨_, ptt, rfl, r1 _, r2, r3, r4, r5, rfl, iteF' (by simp) rfl⟩⟩⟩
  rintro σ H11 ⟨rfl, rfl⟩
  refine ⟨fun σ H => ∃ v11 : Option V, σ = [some (.ref a), some (.ref o), some (.ref t), some (.str (wS (u))), some (.str (wS (v))), some (.ref e), some (.ref L), v7, some (.ref M), some (.ref M2), some (.str (wS (tt))), v11, none, v13, none] ∧ H M = some (.lst (ar.map fun w => V.int ((nfw x y z (u.reverse ++ w)).length : Nat))) ∧ H L = some (.lst ((ar.map wS).map V.str)) ∧ H e = some (.tup [.str (wS [i]), .str (wS [j])]) ∧ Lw K cx.Tiles cx.Floor H o t f n d x y z 300 a xs, ?_, ?_⟩
  · simp only [tSeq, tIfS, tOr, tAnd, tB, tTest, tCB, tCons, tVar, tC, tNil, tNot, tNotV, tRet, tRetN, tNext, tBreak, tOrV, tAndV, tOp, tUn, rEq, rNe, tChain, rI0, rI, rU, tAsg, gName, tDrop, tAug, ipI, tIf, tCall, tCallS, tLst, tTup, tBM, tBM0, rAppend, rExtend, rPop, rReverse, tyV, rIxL, rIxT, rIxS, rIsB, rNotB, L2.start, List.map_cons, List.map_nil, List.length_cons, List.length_nil, List.replicate, List.cons_append, List.nil_append, List.append_nil, List.getElem?_cons_zero, List.getElem?_cons_succ, List.set_cons_zero, List.set_cons_succ, Nat.reduceAdd, Nat.reduceSub, Option.some.injEq, exists_eq_left', exists_eq_left, V.int.injEq, V.bl.injEq, V.str.injEq, V.ref.injEq, List.cons.injEq, and_true, true_and, and_assoc, reduceCtorEq, false_and, exists_false, or_false, false_or, exists_and_left, exists_const, scal, Int.reduceLT, Int.reduceLE, Int.reduceSub, Int.reduceAdd, Int.reduceNeg, if_true, if_false]
    refine FK.rd_for (J := Itr 0 ar.length) (H1 := H11) (fun R r => by
      simp only [tSeq, tIfS, tOr, tAnd, tB, tTest, tCB, tCons, tVar, tC, tNil, tNot, tNotV, tRet, tRetN, tNext, tBreak, tOrV, tAndV, tOp, tUn, rEq, rNe, tChain, rI0, rI, rU, tAsg, gName, tDrop, tAug, ipI, tIf, tCall, tCallS, tLst, tTup, tBM, tBM0, rAppend, rExtend, rPop, rReverse, tyV, rIxL, rIxT, rIxS, rIsB, rNotB, L2.start, List.map_cons, List.map_nil, List.length_cons, List.length_nil, List.replicate, List.cons_append, List.nil_append, List.append_nil, List.getElem?_cons_zero, List.getElem?_cons_succ, List.set_cons_zero, List.set_cons_succ, Nat.reduceAdd, Nat.reduceSub, Option.some.injEq, exists_eq_left', exists_eq_left, V.int.injEq, V.bl.injEq, V.str.injEq, V.ref.injEq, List.cons.injEq, and_true, true_and, and_assoc, reduceCtorEq, false_and, exists_false, or_false, false_or, exists_and_left, exists_const, scal, Int.reduceLT, Int.reduceLE, Int.reduceSub, Int.reduceAdd, Int.reduceNeg, if_true, if_false, iRng1]
      exact ⟨_, .inl (SqL.of eL10), by omega, by rw [hlL]; omega, by rw [hlL]; exact r⟩) walk_nat
      (fun k σ H => ∃ v11 : Option V, σ = [some (.ref a), some (.ref o), some (.ref t), some (.str (wS (u))), some (.str (wS (v))), some (.ref e), some (.ref L), v7, some (.ref M), some (.ref M2), some (.str (wS (tt))), v11, none, v13, none] ∧ H M = some (.lst (ar.map fun w => V.int ((nfw x y z (u.reverse ++ w)).length : Nat))) ∧ H L = some (.lst ((ar.map wS).map V.str)) ∧ H e = some (.tup [.str (wS [i]), .str (wS [j])]) ∧ Lw K cx.Tiles cx.Floor H o t f n d x y z (200 + k) a xs)
      ⟨v11, rfl, eM10, eL10, eE10, W10⟩ (fun _ _ _ _ _ => trivial) ?_ ?_
    · rintro k x' σ Ha Hb hk ⟨v11, rfl, eMk, eLk, eEk, Wk⟩ ⟨rfl, hx⟩
      obtain rfl : x' = .int (k : Nat) := hx
      simp only [tSeq, tIfS, tOr, tAnd, tB, tTest, tCB, tCons, tVar, tC, tNil, tNot, tNotV, tRet, tRetN, tNext, tBreak, tOrV, tAndV, tOp, tUn, rEq, rNe, tChain, rI0, rI, rU, tAsg, gName, tDrop, tAug, ipI, tIf, tCall, tCallS, tLst, tTup, tBM, tBM0, rAppend, rExtend, rPop, rReverse, tyV, rIxL, rIxT, rIxS, rIsB, rNotB, L2.start, List.map_cons, List.map_nil, List.length_cons, List.length_nil, List.replicate, List.cons_append, List.nil_append, List.append_nil, List.getElem?_cons_zero, List.getElem?_cons_succ, List.set_cons_zero, List.set_cons_succ, Nat.reduceAdd, Nat.reduceSub, Option.some.injEq, exists_eq_left', exists_eq_left, V.int.injEq, V.bl.injEq, V.str.injEq, V.ref.injEq, List.cons.injEq, and_true, true_and, and_assoc, reduceCtorEq, false_and, exists_false, or_false, false_or, exists_and_left, exists_const, scal, Int.reduceLT, Int.reduceLE, Int.reduceSub, Int.reduceAdd, Int.reduceNeg, if_true, if_false, tMeth, FK.tRevS]
      obtain ⟨dx, t1⟩ := Wk.sv.tl.ob
      have l1 := lar k hk
      have l2 := Nl (tt.reverse ++ ar[k]) (by rw [List.length_append, List.length_reverse]; omega)
      rw [List.length_append, List.length_reverse] at l2
      refine ⟨_, SqL.of eMk, _, atM k hk, hmin eMk ⟨dx, _, t1, fldsT_no _ _ (by decide +kernel) (by decide +kernel), zw (by omega), _, SqL.of eLk, _, atL k hk, _, rfl, by rw [wS_rev, wS_len, wS_len, List.length_reverse]; exact zl _ (by omega), t, f, n, o, d, x, y, z, _, tt.reverse ++ ar[k], by rw [wS_rev, wS_app], Wk.sv.tl, by rw [List.length_append, List.length_reverse]; omega, by omega, fun H6 Tl b2 => ⟨_, rfl, zw (by omega), _, rfl, rfl, iteF' ?_ ?_⟩⟩⟩
      · have h1 := m1 _ (List.getElem_mem hk)
        rw [wS_len]
        simp
        omega
      · exact ⟨Wk.sv.lst b2 eMk, Wk.sv.lst b2 eLk, Wk.sv.tup b2 eEk, (Wk.nrm Tl b2).mono (by omega)⟩
    · rintro σ Ha ⟨v11, rfl, eMk, eLk, eEk, Wk⟩
      exact ⟨v11, rfl, eMk, eLk, eEk, Wk.mono (by omega)⟩
  rintro σ H12 ⟨v11, rfl, eM12, eL12, eE12, W12⟩
  refine ⟨fun σ H => σ = [some (.ref a), some (.ref o), some (.ref t), some (.str (wS (u))), some (.str (wS (v))), some (.ref e), some (.ref L), v7, some (.ref M), some (.ref M2), some (.str (wS (tt))), v11, none, v13, none] ∧ Lw K cx.Tiles cx.Floor H o t f n d x y z 300 a xs, ?_, ?_⟩
  · simp only [tSeq, tIfS, tOr, tAnd, tB, tTest, tCB, tCons, tVar, tC, tNil, tNot, tNotV, tRet, tRetN, tNext, tBreak, tOrV, tAndV, tOp, tUn, rEq, rNe, tChain, rI0, rI, rU, tAsg, gName, tDrop, tAug, ipI, tIf, tCall, tCallS, tLst, tTup, tBM, tBM0, rAppend, rExtend, rPop, rReverse, tyV, rIxL, rIxT, rIxS, rIsB, rNotB, L2.start, List.map_cons, List.map_nil, List.length_cons, List.length_nil, List.replicate, List.cons_append, List.nil_append, List.append_nil, List.getElem?_cons_zero, List.getElem?_cons_succ, List.set_cons_zero, List.set_cons_succ, Nat.reduceAdd, Nat.reduceSub, Option.some.injEq, exists_eq_left', exists_eq_left, V.int.injEq, V.bl.injEq, V.str.injEq, V.ref.injEq, List.cons.injEq, and_true, true_and, and_assoc, reduceCtorEq, false_and, exists_false, or_false, false_or, exists_and_left, exists_const, scal, Int.reduceLT, Int.reduceLE, Int.reduceSub, Int.reduceAdd, Int.reduceNeg, if_true, if_false]
    obtain ⟨w, hw, ew⟩ : ∃ w, w ∈ ar ∧ atI ((ar.map wS).map V.str) (-1) = some (.str (wS w)) := by
      refine ⟨ar[ar.length - 1], List.getElem_mem (by omega), ?_⟩
      refine atI_back (k := 1) (by decide) (by rw [hlL]; omega) ?_
      rw [hlL, List.getElem?_map, List.getElem?_map, List.getElem?_eq_getElem (show ar.length - 1 < ar.length by omega)]
      rfl
    refine ⟨_, SqL.of eL12, _, ew, told_w W12.sv.g eE12 (by have := arl w hw; omega) hpr fun p' H' G' l' s' => ?_⟩
    rw [m4 w hw p' l' G']
    exact ⟨_, ptt, rfl, r1 _, r2, r3, r4, r5, _, ptt, rfl, r1 _, r2, r3, r4, r5, rfl, iteF' (by simp) (W12.same s')⟩
  rintro σ H13 ⟨rfl, W13⟩
  refine ⟨fun σ H => ∃ (e2 : Addr) (cs : List Str), σ = [some (.ref a), some (.ref o), some (.ref t), some (.str (wS (u))), some (.str (wS (v))), some (.ref e), some (.ref L), v7, some (.ref M), some (.ref M2), some (.str (wS (tt))), v11, some (.ref e2), v13, none] ∧ H e2 = some (.tup (cs.map V.str)) ∧ SeqAt.shaped (.tuple (cs.map PyData.str)) = true ∧ inPrs cs = false ∧ Lw K cx.Tiles cx.Floor H o t f n d x y z 300 a xs, ?_, ?_⟩
  · simp only [tSeq, tIfS, tOr, tAnd, tB, tTest, tCB, tCons, tVar, tC, tNil, tNot, tNotV, tRet, tRetN, tNext, tBreak, tOrV, tAndV, tOp, tUn, rEq, rNe, tChain, rI0, rI, rU, tAsg, gName, tDrop, tAug, ipI, tIf, tCall, tCallS, tLst, tTup, tBM, tBM0, rAppend, rExtend, rPop, rReverse, tyV, rIxL, rIxT, rIxS, rIsB, rNotB, L2.start, List.map_cons, List.map_nil, List.length_cons, List.length_nil, List.replicate, List.cons_append, List.nil_append, List.append_nil, List.getElem?_cons_zero, List.getElem?_cons_succ, List.set_cons_zero, List.set_cons_succ, Nat.reduceAdd, Nat.reduceSub, Option.some.injEq, exists_eq_left', exists_eq_left, V.int.injEq, V.bl.injEq, V.str.injEq, V.ref.injEq, List.cons.injEq, and_true, true_and, and_assoc, reduceCtorEq, false_and, exists_false, or_false, false_or, exists_and_left, exists_const, scal, Int.reduceLT, Int.reduceLE, Int.reduceSub, Int.reduceAdd, Int.reduceNeg, if_true, if_false]
    refine ⟨by decide, fun p1 h1 => ⟨by decide, fun p2 h2 => ⟨by decide, fun p3 h3 => ⟨by decide, fun p4 h4 => ⟨by decide, fun p5 h5 => ⟨by decide, fun p6 h6 => ?_⟩⟩⟩⟩⟩⟩
    have s1 := FK.same_new (o := HO.tup [.str "1", .str "0"]) h1
    have s2 := FK.same_new (o := HO.tup [.str "0", .str "0"]) h2
    have s3 := FK.same_new (o := HO.tup [.str "0", .str "3"]) h3
    have s4 := FK.same_new (o := HO.tup [.str "0"]) h4
    have s5 := FK.same_new (o := HO.tup [.str "0", .str "1", .str "2"]) h5
    have s6 := FK.same_new (o := HO.lst [.ref p1, .ref p2, .ref p3, .ref p4, .ref p5]) h6
    have sA := ((((s1.trans s2).trans s3).trans s4).trans s5).trans s6
    have WA := W13.same sA
    refine cell 4 WA.sc fun r => ?_
    obtain ⟨e2, cs, q1, q2, q3, q4⟩ := strng (r := r % 5) (Int.emod_nonneg _ (by decide)) (Int.emod_lt_of_pos _ (by decide)) (s6 _ _ (s5 _ _ (s4 _ _ (s3 _ _ (s2 _ _ upd_same))))) (s6 _ _ (s5 _ _ (s4 _ _ (s3 _ _ upd_same)))) (s6 _ _ (s5 _ _ (s4 _ _ upd_same))) (s6 _ _ (s5 _ _ upd_same)) (s6 _ _ upd_same)
    exact ⟨r, rfl, _, SqL.of upd_same, _, q1, e2, rfl, cs, q2, q3, q4, WA⟩
  rintro σ H14 ⟨e2, cs, rfl, eC, shc, inc, W14⟩
  refine ⟨fun σ H => σ = [some (.ref a), some (.ref o), some (.ref t), some (.str (wS (u))), some (.str (wS (v))), some (.ref e), some (.ref L), v7, some (.ref M), some (.ref M2), some (.str (wS (tt))), v11, some (.ref e2), v13, none] ∧ H e2 = some (.tup (cs.map V.str)) ∧ Lw K cx.Tiles cx.Floor H o t f n d x y z 300 a xs, ?_, ?_⟩
  · simp only [tSeq, tIfS, tOr, tAnd, tB, tTest, tCB, tCons, tVar, tC, tNil, tNot, tNotV, tRet, tRetN, tNext, tBreak, tOrV, tAndV, tOp, tUn, rEq, rNe, tChain, rI0, rI, rU, tAsg, gName, tDrop, tAug, ipI, tIf, tCall, tCallS, tLst, tTup, tBM, tBM0, rAppend, rExtend, rPop, rReverse, tyV, rIxL, rIxT, rIxS, rIsB, rNotB, L2.start, List.map_cons, List.map_nil, List.length_cons, List.length_nil, List.replicate, List.cons_append, List.nil_append, List.append_nil, List.getElem?_cons_zero, List.getElem?_cons_succ, List.set_cons_zero, List.set_cons_succ, Nat.reduceAdd, Nat.reduceSub, Option.some.injEq, exists_eq_left', exists_eq_left, V.int.injEq, V.bl.injEq, V.str.injEq, V.ref.injEq, List.cons.injEq, and_true, true_and, and_assoc, reduceCtorEq, false_and, exists_false, or_false, false_or, exists_and_left, exists_const, scal, Int.reduceLT, Int.reduceLE, Int.reduceSub, Int.reduceAdd, Int.reduceNeg, if_true, if_false]
    refine told_c W14.sv.g eC (by omega) (by omega) shc inc fun H' s' => ⟨rfl, iteF' (by simp) ⟨by decide, fun p hp => ?_⟩⟩
    refine told_o (ns := [1, 1, 1]) (SqT.of upd_same) (by decide) (FK.same_new hp _ _ (s' _ _ eC)) (by decide) (szw (by omega)) shc fun H2 s2 => ⟨rfl, iteF' (by simp) ?_⟩
    exact ⟨s2 _ _ (FK.same_new hp _ _ (s' _ _ eC)), W14.same ((s'.trans (FK.same_new hp)).trans s2)⟩
  rintro σ H15 ⟨rfl, eC15, W15⟩
  simp only [tSeq, tIfS, tOr, tAnd, tB, tTest, tCB, tCons, tVar, tC, tNil, tNot, tNotV, tRet, tRetN, tNext, tBreak, tOrV, tAndV, tOp, tUn, rEq, rNe, tChain, rI0, rI, rU, tAsg, gName, tDrop, tAug, ipI, tIf, tCall, tCallS, tLst, tTup, tBM, tBM0, rAppend, rExtend, rPop, rReverse, tyV, rIxL, rIxT, rIxS, rIsB, rNotB, L2.start, List.map_cons, List.map_nil, List.length_cons, List.length_nil, List.replicate, List.cons_append, List.nil_append, List.append_nil, List.getElem?_cons_zero, List.getElem?_cons_succ, List.set_cons_zero, List.set_cons_succ, Nat.reduceAdd, Nat.reduceSub, Option.some.injEq, exists_eq_left', exists_eq_left, V.int.injEq, V.bl.injEq, V.str.injEq, V.ref.injEq, List.cons.injEq, and_true, true_and, and_assoc, reduceCtorEq, false_and, exists_false, or_false, false_or, exists_and_left, exists_const, scal, Int.reduceLT, Int.reduceLE, Int.reduceSub, Int.reduceAdd, Int.reduceNeg, if_true, if_false]
  have ox : okWord "x" 60 = false := by decide +kernel
  exact told_x W15.sv.g eC15 (by decide) (szw (by omega)) shc (by rw [ox]; rfl) fun H' s' => ⟨rfl, iteT' (by simp) (told_x (W15.same s').sv.g (s' _ _ eC15) (szw (by omega)) (by decide) shc (by rw [ox, Bool.and_false]) fun H2 s2 => ⟨rfl, by simp⟩)⟩

end
end K35

namespace K35
open PySem PySem.Spec PyProof.Rows L2
theorem law_holds {P : Program} {w : World} {K : PySem.W.Frag} {mg : Str → Option Value} {h : Heap} {fa : Addr} (inK : K.In h) (T : ∃ cx : Xs, Txt K mg cx) (g : mg "law" = some (.ref fa)) (base : Heap) (s : Shared) (H : Hp) (a : Addr) (ns : List Int) (hl : ns.length ≤ 63) (hb : ∀ z ∈ ns, Builtin.Int.intBits z ≤ 1048576)
    (e0 : Env0 P w K mg base callerA [] s H) (sq : SqL K H a (ns.map V.int)) : codeAny (model P w) callerA (.call (.ref fa) ⟨[.ref a], []⟩) (CR CX0 [] P w H s (fun v _ => v = .bl true) E0) s := by
  obtain ⟨cx, T⟩ := T
  exact ok_law T g ⟨rfl, by decide, by decide⟩ e0 sq hl
end K35
open PySem PySem.W PyProof.Rows
set_option maxHeartbeats 0 in
theorem PySem.Challenge.cw_foldfloor_k35_gates_at_corners_holds : PySem.Challenge.rw_foldfloor_k35_gates_at_corners.Holds := by
  w_on; o_law; k_head; (case hw => w_witness2)
  k_fill
  refine FK.walk_law (l := PySem.Challenge.rw_foldfloor_k35_gates_at_corners) (n := 63) rfl (by decide) rfl (fun w h Y => PySem.W.kIn_of Y) ?F
  intro w mg fa h KX G hmg
  refine K35.law_holds KX ?T hmg
  case T =>
    refine' K35.mk_txt {
      d_is_order := FK.at_mk KX G ?q1_a ?q1_l ?q1_c ?q1_k (fun _ _ _ _ _ _ us hl => match us, hl with | [_], _ => rfl),
      d_is_orders := FK.at_mk KX G ?q2_a ?q2_l ?q2_c ?q2_k (fun _ _ _ _ _ _ us hl => match us, hl with | [_], _ => rfl),
      d_check_orders := FK.at_mk KX G ?q3_a ?q3_l ?q3_c ?q3_k (fun _ _ _ _ _ _ us hl => match us, hl with | [_], _ => rfl),
      d_is_letter := FK.at_mk KX G ?q4_a ?q4_l ?q4_c ?q4_k (fun _ _ _ _ _ _ us hl => match us, hl with | [_], _ => rfl),
      d_is_word := FK.at_mk KX G ?q5_a ?q5_l ?q5_c ?q5_k (fun _ _ _ _ _ _ us hl => match us, hl with | [_, _], _ => rfl),
      d_check_long_word := FK.at_mk KX G ?q6_a ?q6_l ?q6_c ?q6_k (fun _ _ _ _ _ _ us hl => match us, hl with | [_, _], _ => rfl),
      d_check_word := FK.at_mk KX G ?q7_a ?q7_l ?q7_c ?q7_k (fun _ _ _ _ _ _ us hl => match us, hl with | [_], _ => rfl),
      d_check_words := FK.at_mk KX G ?q8_a ?q8_l ?q8_c ?q8_k (fun _ _ _ _ _ _ us hl => match us, hl with | [_], _ => rfl),
      d_check_letter := FK.at_mk KX G ?q9_a ?q9_l ?q9_c ?q9_k (fun _ _ _ _ _ _ us hl => match us, hl with | [_], _ => rfl),
      d_sine_ratio := FK.at_mk KX G ?q10_a ?q10_l ?q10_c ?q10_k (fun _ _ _ _ _ _ us hl => match us, hl with | [_, _, _], _ => rfl),
      d_bend_of := FK.at_mk KX G ?q11_a ?q11_l ?q11_c ?q11_k (fun _ _ _ _ _ _ us hl => match us, hl with | [_, _], _ => rfl),
      d_scale_for := FK.at_mk KX G ?q12_a ?q12_l ?q12_c ?q12_k (fun _ _ _ _ _ _ us hl => match us, hl with | [_, _], _ => rfl),
      d_first_depths := FK.at_mk KX G ?q13_a ?q13_l ?q13_c ?q13_k (fun _ _ _ _ _ _ us hl => match us, hl with | [_], _ => rfl),
      d_depths_behind := FK.at_mk KX G ?q14_a ?q14_l ?q14_c ?q14_k (fun _ _ _ _ _ _ us hl => match us, hl with | [_, _, _], _ => rfl),
      d_depths_of := FK.at_mk KX G ?q15_a ?q15_l ?q15_c ?q15_k (fun _ _ _ _ _ _ us hl => match us, hl with | [_, _], _ => rfl),
      d_far_letters := FK.at_mk KX G ?q16_a ?q16_l ?q16_c ?q16_k (fun _ _ _ _ _ _ us hl => match us, hl with | [_], _ => rfl),
      d_first_far := FK.at_mk KX G ?q17_a ?q17_l ?q17_c ?q17_k (fun _ _ _ _ _ _ us hl => match us, hl with | [_], _ => rfl),
      d_first_root := FK.at_mk KX G ?q18_a ?q18_l ?q18_c ?q18_k (fun _ _ _ _ _ _ us hl => match us, hl with | [_, _], _ => rfl),
      d_root_behind := FK.at_mk KX G ?q19_a ?q19_l ?q19_c ?q19_k (fun _ _ _ _ _ _ us hl => match us, hl with | [_, _, _], _ => rfl),
      d_place_crossing := FK.at_mk KX G ?q20_a ?q20_l ?q20_c ?q20_k (fun _ _ _ _ _ _ us hl => match us, hl with | [_, _, _], _ => rfl),
      d_Floor_init := FK.iat_mk ?q21_mk ?q21_a ?q21_i ?q21_kc ?q21_l ?q21_c ?q21_k (fun _ _ _ _ _ _ us hl => match us, hl with | [_, _], _ => rfl),
      d_Floor_scale := FK.mat_mk ?q22_a ?q22_i ?q22_l ?q22_c ?q22_k (fun _ _ _ _ _ _ us hl => match us, hl with | [_, _], _ => rfl),
      d_Floor_normal := FK.mat_mk ?q23_a ?q23_i ?q23_l ?q23_c ?q23_k (fun _ _ _ _ _ _ us hl => match us, hl with | [_, _], _ => rfl),
      d_Floor_ends := FK.mat_mk ?q24_a ?q24_i ?q24_l ?q24_c ?q24_k (fun _ _ _ _ _ _ us hl => match us, hl with | [_, _], _ => rfl),
      d_Floor_left_out := FK.mat_mk ?q25_a ?q25_i ?q25_l ?q25_c ?q25_k (fun _ _ _ _ _ _ us hl => match us, hl with | [_, _, _], _ => rfl),
      d_Floor_below := FK.mat_mk ?q26_a ?q26_i ?q26_l ?q26_c ?q26_k (fun _ _ _ _ _ _ us hl => match us, hl with | [_, _, _], _ => rfl),
      d_way_between := FK.at_mk KX G ?q27_a ?q27_l ?q27_c ?q27_k (fun _ _ _ _ _ _ us hl => match us, hl with | [_, _, _], _ => rfl),
      d_shortest_around := FK.at_mk KX G ?q28_a ?q28_l ?q28_c ?q28_k (fun _ _ _ _ _ _ us hl => match us, hl with | [_, _, _], _ => rfl),
      d_gate := FK.at_mk KX G ?q29_a ?q29_l ?q29_c ?q29_k (fun _ _ _ _ _ _ us hl => match us, hl with | [_, _, _, _], _ => rfl),
      d_Tiles_init := FK.iat_mk ?q30_mk ?q30_a ?q30_i ?q30_kc ?q30_l ?q30_c ?q30_k (fun _ _ _ _ _ _ us hl => match us, hl with | [_, _], _ => rfl),
      d_Tiles_normal := FK.mat_mk ?q31_a ?q31_i ?q31_l ?q31_c ?q31_k (fun _ _ _ _ _ _ us hl => match us, hl with | [_, _], _ => rfl),
      d_Tiles_beyond := FK.mat_mk ?q32_a ?q32_i ?q32_l ?q32_c ?q32_k (fun _ _ _ _ _ _ us hl => match us, hl with | [_, _, _], _ => rfl),
      d_Tiles_remembered := FK.mat_mk ?q33_a ?q33_i ?q33_l ?q33_c ?q33_k (fun _ _ _ _ _ _ us hl => match us, hl with | [_, _], _ => rfl),
      d_law_cell := FK.at_mk KX G ?q34_a ?q34_l ?q34_c ?q34_k (fun _ _ _ _ _ _ us hl => match us, hl with | [_, _], _ => rfl),
      d_law_values := FK.at_mk KX G ?q35_a ?q35_l ?q35_c ?q35_k (fun _ _ _ _ _ _ us hl => match us, hl with | [_, _, _], _ => rfl),
      d_law_orders := FK.at_mk KX G ?q36_a ?q36_l ?q36_c ?q36_k (fun _ _ _ _ _ _ us hl => match us, hl with | [_], _ => rfl),
      d_law_word := FK.at_mk KX G ?q37_a ?q37_l ?q37_c ?q37_k (fun _ _ _ _ _ _ us hl => match us, hl with | [_, _], _ => rfl),
      d_law_told := FK.at_mk KX G ?q38_a ?q38_l ?q38_c ?q38_k (fun _ _ _ _ _ _ us hl => match us, hl with | [_, _, _, _], _ => rfl),
      d_law := FK.at_mk KX G ?q39_a ?q39_l ?q39_c ?q39_k (fun _ _ _ _ _ _ us hl => match us, hl with | [_], _ => rfl),
      g_Floor := PySem.W.mg_of KX G ?q40_a,
      cl_Floor := ⟨?q41_pg, ?q41_hd, ?q41_po, ?q41_sa⟩,
      nF_Floor_orders := FK.noattr_mk ?q42_a,
      nF_Floor_scales := FK.noattr_mk ?q43_a,
      g_Tiles := PySem.W.mg_of KX G ?q44_a,
      cl_Tiles := ⟨?q45_pg, ?q45_hd, ?q45_po, ?q45_sa⟩,
      nF_Tiles_floor := FK.noattr_mk ?q46_a,
      nF_Tiles_normals := FK.noattr_mk ?q47_a,
      n_all := PySem.W.mg_none_of KX G ?q48_a,
      n_bool := PySem.W.mg_none_of KX G ?q49_a,
      n_int := PySem.W.mg_none_of KX G ?q50_a,
      n_isinstance := PySem.W.mg_none_of KX G ?q51_a,
      n_len := PySem.W.mg_none_of KX G ?q52_a,
      n_min := PySem.W.mg_none_of KX G ?q53_a,
      n_range := PySem.W.mg_none_of KX G ?q54_a,
      n_repr := PySem.W.mg_none_of KX G ?q55_a,
      n_sum := PySem.W.mg_none_of KX G ?q56_a,
      n_tuple := PySem.W.mg_none_of KX G ?q57_a,
      n_zip := PySem.W.mg_none_of KX G ?q58_a,
      x_FoldError := FK.xc_mk KX G ?q59_a ?q59_k ?q59_x ?q59_b ?q59_t ?q59_c ?q59_e1 ?q59_e2 ?q59_e4 ?q59_e5 ?q59_e6 ?q59_e7 ?q59_e8,
      x_NotOrders := FK.xc_mk KX G ?q60_a ?q60_k ?q60_x ?q60_b ?q60_t ?q60_c ?q60_e1 ?q60_e2 ?q60_e4 ?q60_e5 ?q60_e6 ?q60_e7 ?q60_e8,
      x_NotWord := FK.xc_mk KX G ?q61_a ?q61_k ?q61_x ?q61_b ?q61_t ?q61_c ?q61_e1 ?q61_e2 ?q61_e4 ?q61_e5 ?q61_e6 ?q61_e7 ?q61_e8,
      x_BadNumber := FK.xc_mk KX G ?q62_a ?q62_k ?q62_x ?q62_b ?q62_t ?q62_c ?q62_e1 ?q62_e2 ?q62_e4 ?q62_e5 ?q62_e6 ?q62_e7 ?q62_e8,
      c_LETTERS := PySem.W.mg_of KX G ?q63_a,
      c_PAIRS := PySem.W.mg_of KX G ?q64_a,
      c_MOST_LETTERS := PySem.W.mg_of KX G ?q65_a,
      c_GUARD := PySem.W.mg_of KX G ?q66_a,
      c_SIZE := PySem.W.mg_of KX G ?q67_a,
      c_MOST_REMEMBERED := PySem.W.mg_of KX G ?q68_a,
      exm_NotOrders_NotOrders := PySem.W.exm_ref ?q69_a ?q69_b ?q69_c ?q69_d,
      exm_NotOrders_NotWord := PySem.W.exm_ref ?q70_a ?q70_b ?q70_c ?q70_d,
      exm_NotOrders_BadNumber := PySem.W.exm_ref ?q71_a ?q71_b ?q71_c ?q71_d,
      exm_NotWord_NotOrders := PySem.W.exm_ref ?q72_a ?q72_b ?q72_c ?q72_d,
      exm_NotWord_NotWord := PySem.W.exm_ref ?q73_a ?q73_b ?q73_c ?q73_d,
      exm_NotWord_BadNumber := PySem.W.exm_ref ?q74_a ?q74_b ?q74_c ?q74_d,
      exm_BadNumber_NotOrders := PySem.W.exm_ref ?q75_a ?q75_b ?q75_c ?q75_d,
      exm_BadNumber_NotWord := PySem.W.exm_ref ?q76_a ?q76_b ?q76_c ?q76_d,
      exm_BadNumber_BadNumber := PySem.W.exm_ref ?q77_a ?q77_b ?q77_c ?q77_d,
      p_PAIRS := FK.tup_mk ?q78_a,
      p_b0 := FK.tup2s_mk ?q79_a,
      p_b1 := FK.tup2s_mk ?q80_a,
      p_b2 := FK.tup2s_mk ?q81_a }
    (case q40_a => k_is)
    (case q44_a => k_is)
    (case q1_a => k_is)
    (case q1_l => k_is)
    (case q1_c => k_is)
    (case q1_k => k_is)
    (case q2_a => k_is)
    (case q2_l => k_is)
    (case q2_c => k_is)
    (case q2_k => k_is)
    (case q3_a => k_is)
    (case q3_l => k_is)
    (case q3_c => k_is)
    (case q3_k => k_is)
    (case q4_a => k_is)
    (case q4_l => k_is)
    (case q4_c => k_is)
    (case q4_k => k_is)
    (case q5_a => k_is)
    (case q5_l => k_is)
    (case q5_c => k_is)
    (case q5_k => k_is)
    (case q6_a => k_is)
    (case q6_l => k_is)
    (case q6_c => k_is)
    (case q6_k => k_is)
    (case q7_a => k_is)
    (case q7_l => k_is)
    (case q7_c => k_is)
    (case q7_k => k_is)
    (case q8_a => k_is)
    (case q8_l => k_is)
    (case q8_c => k_is)
    (case q8_k => k_is)
    (case q9_a => k_is)
    (case q9_l => k_is)
    (case q9_c => k_is)
    (case q9_k => k_is)
    (case q10_a => k_is)
    (case q10_l => k_is)
    (case q10_c => k_is)
    (case q10_k => k_is)
    (case q11_a => k_is)
    (case q11_l => k_is)
    (case q11_c => k_is)
    (case q11_k => k_is)
    (case q12_a => k_is)
    (case q12_l => k_is)
    (case q12_c => k_is)
    (case q12_k => k_is)
    (case q13_a => k_is)
    (case q13_l => k_is)
    (case q13_c => k_is)
    (case q13_k => k_is)
    (case q14_a => k_is)
    (case q14_l => k_is)
    (case q14_c => k_is)
    (case q14_k => k_is)
    (case q15_a => k_is)
    (case q15_l => k_is)
    (case q15_c => k_is)
    (case q15_k => k_is)
    (case q16_a => k_is)
    (case q16_l => k_is)
    (case q16_c => k_is)
    (case q16_k => k_is)
    (case q17_a => k_is)
    (case q17_l => k_is)
    (case q17_c => k_is)
    (case q17_k => k_is)
    (case q18_a => k_is)
    (case q18_l => k_is)
    (case q18_c => k_is)
    (case q18_k => k_is)
    (case q19_a => k_is)
    (case q19_l => k_is)
    (case q19_c => k_is)
    (case q19_k => k_is)
    (case q20_a => k_is)
    (case q20_l => k_is)
    (case q20_c => k_is)
    (case q20_k => k_is)
    (case q21_mk => (try dsimp only); k_is)
    (case q21_a => (try dsimp only); k_is)
    (case q21_i => (try dsimp only); k_is)
    (case q21_kc => (try dsimp only); k_is)
    (case q21_l => (try dsimp only); k_is)
    (case q21_c => (try dsimp only); k_is)
    (case q21_k => (try dsimp only); k_is)
    (case q22_a => (try dsimp only); k_is)
    (case q22_i => (try dsimp only); k_is)
    (case q22_l => (try dsimp only); k_is)
    (case q22_c => (try dsimp only); k_is)
    (case q22_k => (try dsimp only); k_is)
    (case q23_a => (try dsimp only); k_is)
    (case q23_i => (try dsimp only); k_is)
    (case q23_l => (try dsimp only); k_is)
    (case q23_c => (try dsimp only); k_is)
    (case q23_k => (try dsimp only); k_is)
    (case q24_a => (try dsimp only); k_is)
    (case q24_i => (try dsimp only); k_is)
    (case q24_l => (try dsimp only); k_is)
    (case q24_c => (try dsimp only); k_is)
    (case q24_k => (try dsimp only); k_is)
    (case q25_a => (try dsimp only); k_is)
    (case q25_i => (try dsimp only); k_is)
    (case q25_l => (try dsimp only); k_is)
    (case q25_c => (try dsimp only); k_is)
    (case q25_k => (try dsimp only); k_is)
    (case q26_a => (try dsimp only); k_is)
    (case q26_i => (try dsimp only); k_is)
    (case q26_l => (try dsimp only); k_is)
    (case q26_c => (try dsimp only); k_is)
    (case q26_k => (try dsimp only); k_is)
    (case q27_a => k_is)
    (case q27_l => k_is)
    (case q27_c => k_is)
    (case q27_k => k_is)
    (case q28_a => k_is)
    (case q28_l => k_is)
    (case q28_c => k_is)
    (case q28_k => k_is)
    (case q29_a => k_is)
    (case q29_l => k_is)
    (case q29_c => k_is)
    (case q29_k => k_is)
    (case q30_mk => (try dsimp only); k_is)
    (case q30_a => (try dsimp only); k_is)
    (case q30_i => (try dsimp only); k_is)
    (case q30_kc => (try dsimp only); k_is)
    (case q30_l => (try dsimp only); k_is)
    (case q30_c => (try dsimp only); k_is)
    (case q30_k => (try dsimp only); k_is)
    (case q31_a => (try dsimp only); k_is)
    (case q31_i => (try dsimp only); k_is)
    (case q31_l => (try dsimp only); k_is)
    (case q31_c => (try dsimp only); k_is)
    (case q31_k => (try dsimp only); k_is)
    (case q32_a => (try dsimp only); k_is)
    (case q32_i => (try dsimp only); k_is)
    (case q32_l => (try dsimp only); k_is)
    (case q32_c => (try dsimp only); k_is)
    (case q32_k => (try dsimp only); k_is)
    (case q33_a => (try dsimp only); k_is)
    (case q33_i => (try dsimp only); k_is)
    (case q33_l => (try dsimp only); k_is)
    (case q33_c => (try dsimp only); k_is)
    (case q33_k => (try dsimp only); k_is)
    (case q34_a => k_is)
    (case q34_l => k_is)
    (case q34_c => k_is)
    (case q34_k => k_is)
    (case q35_a => k_is)
    (case q35_l => k_is)
    (case q35_c => k_is)
    (case q35_k => k_is)
    (case q36_a => k_is)
    (case q36_l => k_is)
    (case q36_c => k_is)
    (case q36_k => k_is)
    (case q37_a => k_is)
    (case q37_l => k_is)
    (case q37_c => k_is)
    (case q37_k => k_is)
    (case q38_a => k_is)
    (case q38_l => k_is)
    (case q38_c => k_is)
    (case q38_k => k_is)
    (case q39_a => k_is)
    (case q39_l => k_is)
    (case q39_c => k_is)
    (case q39_k => k_is)
    (case q41_pg => (try dsimp only); k_is)
    (case q41_hd => (try dsimp only); k_is)
    (case q41_po => (try dsimp only); k_is)
    (case q41_sa => (try dsimp only); k_is)
    (case q42_a => (try dsimp only); k_is)
    (case q43_a => (try dsimp only); k_is)
    (case q45_pg => (try dsimp only); k_is)
    (case q45_hd => (try dsimp only); k_is)
    (case q45_po => (try dsimp only); k_is)
    (case q45_sa => (try dsimp only); k_is)
    (case q46_a => (try dsimp only); k_is)
    (case q47_a => (try dsimp only); k_is)
    (case q48_a => (try dsimp only); k_is)
    (case q49_a => (try dsimp only); k_is)
    (case q50_a => (try dsimp only); k_is)
    (case q51_a => (try dsimp only); k_is)
    (case q52_a => (try dsimp only); k_is)
    (case q53_a => (try dsimp only); k_is)
    (case q54_a => (try dsimp only); k_is)
    (case q55_a => (try dsimp only); k_is)
    (case q56_a => (try dsimp only); k_is)
    (case q57_a => (try dsimp only); k_is)
    (case q58_a => (try dsimp only); k_is)
    (case q59_a => (try dsimp only); k_is)
    (case q59_k => (try dsimp only); k_is)
    (case q59_x => (try dsimp only); k_exc)
    (case q59_b => (try dsimp only); k_is)
    (case q59_t => (try dsimp only); k_is)
    (case q59_c => (try dsimp only); k_is)
    (case q59_e1 => (try dsimp only); k_is)
    (case q59_e2 => (try dsimp only); k_is)
    (case q59_e4 => (try dsimp only); k_is)
    (case q59_e5 => (try dsimp only); k_is)
    (case q59_e6 => (try dsimp only); k_is)
    (case q59_e7 => (try dsimp only); k_is)
    (case q59_e8 => (try dsimp only); k_is)
    (case q60_a => (try dsimp only); k_is)
    (case q60_k => (try dsimp only); k_is)
    (case q60_x => (try dsimp only); k_exc)
    (case q60_b => (try dsimp only); k_is)
    (case q60_t => (try dsimp only); k_is)
    (case q60_c => (try dsimp only); k_is)
    (case q60_e1 => (try dsimp only); k_is)
    (case q60_e2 => (try dsimp only); k_is)
    (case q60_e4 => (try dsimp only); k_is)
    (case q60_e5 => (try dsimp only); k_is)
    (case q60_e6 => (try dsimp only); k_is)
    (case q60_e7 => (try dsimp only); k_is)
    (case q60_e8 => (try dsimp only); k_is)
    (case q61_a => (try dsimp only); k_is)
    (case q61_k => (try dsimp only); k_is)
    (case q61_x => (try dsimp only); k_exc)
    (case q61_b => (try dsimp only); k_is)
    (case q61_t => (try dsimp only); k_is)
    (case q61_c => (try dsimp only); k_is)
    (case q61_e1 => (try dsimp only); k_is)
    (case q61_e2 => (try dsimp only); k_is)
    (case q61_e4 => (try dsimp only); k_is)
    (case q61_e5 => (try dsimp only); k_is)
    (case q61_e6 => (try dsimp only); k_is)
    (case q61_e7 => (try dsimp only); k_is)
    (case q61_e8 => (try dsimp only); k_is)
    (case q62_a => (try dsimp only); k_is)
    (case q62_k => (try dsimp only); k_is)
    (case q62_x => (try dsimp only); k_exc)
    (case q62_b => (try dsimp only); k_is)
    (case q62_t => (try dsimp only); k_is)
    (case q62_c => (try dsimp only); k_is)
    (case q62_e1 => (try dsimp only); k_is)
    (case q62_e2 => (try dsimp only); k_is)
    (case q62_e4 => (try dsimp only); k_is)
    (case q62_e5 => (try dsimp only); k_is)
    (case q62_e6 => (try dsimp only); k_is)
    (case q62_e7 => (try dsimp only); k_is)
    (case q62_e8 => (try dsimp only); k_is)
    (case q63_a => (try dsimp only); k_is)
    (case q64_a => (try dsimp only); k_is)
    (case q65_a => (try dsimp only); k_is)
    (case q66_a => (try dsimp only); k_is)
    (case q67_a => (try dsimp only); k_is)
    (case q68_a => (try dsimp only); k_is)
    (case q69_a => (try dsimp only); k_is)
    (case q69_b => (try dsimp only); k_is)
    (case q69_c => (try dsimp only); k_is)
    (case q69_d => (try dsimp only); k_is)
    (case q70_a => (try dsimp only); k_is)
    (case q70_b => (try dsimp only); k_is)
    (case q70_c => (try dsimp only); k_is)
    (case q70_d => (try dsimp only); k_is)
    (case q71_a => (try dsimp only); k_is)
    (case q71_b => (try dsimp only); k_is)
    (case q71_c => (try dsimp only); k_is)
    (case q71_d => (try dsimp only); k_is)
    (case q72_a => (try dsimp only); k_is)
    (case q72_b => (try dsimp only); k_is)
    (case q72_c => (try dsimp only); k_is)
    (case q72_d => (try dsimp only); k_is)
    (case q73_a => (try dsimp only); k_is)
    (case q73_b => (try dsimp only); k_is)
    (case q73_c => (try dsimp only); k_is)
    (case q73_d => (try dsimp only); k_is)
    (case q74_a => (try dsimp only); k_is)
    (case q74_b => (try dsimp only); k_is)
    (case q74_c => (try dsimp only); k_is)
    (case q74_d => (try dsimp only); k_is)
    (case q75_a => (try dsimp only); k_is)
    (case q75_b => (try dsimp only); k_is)
    (case q75_c => (try dsimp only); k_is)
    (case q75_d => (try dsimp only); k_is)
    (case q76_a => (try dsimp only); k_is)
    (case q76_b => (try dsimp only); k_is)
    (case q76_c => (try dsimp only); k_is)
    (case q76_d => (try dsimp only); k_is)
    (case q77_a => (try dsimp only); k_is)
    (case q77_b => (try dsimp only); k_is)
    (case q77_c => (try dsimp only); k_is)
    (case q77_d => (try dsimp only); k_is)
    (case q78_a => (try dsimp only); k_is)
    (case q79_a => (try dsimp only); k_is)
    (case q80_a => (try dsimp only); k_is)
    (case q81_a => (try dsimp only); k_is)
#print axioms PySem.Challenge.cw_foldfloor_k35_gates_at_corners_holds

