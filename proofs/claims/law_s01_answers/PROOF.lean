import PyProof.Rows.All
import Wide.All
import OpenK.AllK
import Wide.FinOn
import Open.SpecLaws
import KE.OsGo
import HandS.ForSpec
import HandS.ForMost
import HandS.Codes
import HandS.SetFor
import HandS.Lambda
import HandS.SortKw
import KE.KMinKey
import KE.LtData
import HandS.EndTab
import HandS.Spec
import HandS.Walk
import HandS.Iter
import PySem.Challenge.RW_spiderfly_s01_answers

/-! ## M1 -/
set_option Elab.async false
namespace SF
open Sy73

/-- one coordinate of the plane that a laid face has -/
structure Scl where
  axis : Nat
  start : Int
  sign : Int
def Scl.place (s : Scl) (c : Int) : Int := s.start + s.sign * c
def lev (box : List Nat) (f : Nat) : Int := (nth box (f / 2) : Int) * ((f % 2 : Nat) : Int)
def sideI (f : Nat) : Int := 2 * ((f % 2 : Nat) : Int) - 1
def axCross (s : Scl × Scl) (g : Nat) : Bool := s.1.axis == g / 2
/-- an edge in the plane: is it met by the first coordinate? where; from low to high along the other -/
structure Edg where
  fst : Bool
  wh : Int
  lo : Int
  hi : Int
def edgeM (box : List Nat) (s : Scl × Scl) (g : Nat) : Edg :=
  let c := axCross s g
  let al := if c then s.2 else s.1
  let ac := if c then s.1 else s.2
  ⟨c, ac.place (lev box g), min (al.place 0) (al.place (nth box al.axis)), max (al.place 0) (al.place (nth box al.axis))⟩
def beyondM (box : List Nat) (s : Scl × Scl) (f g : Nat) : Scl × Scl :=
  let c := axCross s g
  let ac := if c then s.1 else s.2
  let wh := ac.place (lev box g)
  let onw := ac.sign * sideI g
  let sg := -onw * sideI f
  let n : Scl := ⟨f / 2, wh - sg * lev box f, sg⟩
  if c then (n, s.2) else (s.1, n)
def firstM (f : Nat) : Scl × Scl := if f / 2 = 0 then (⟨1, 0, 1⟩, ⟨2, 0, 1⟩) else if f / 2 = 1 then (⟨0, 0, 1⟩, ⟨2, 0, 1⟩) else (⟨0, 0, 1⟩, ⟨1, 0, 1⟩)
def spotM (s : Scl × Scl) (p : List Nat) : Int × Int := (s.1.place (nth p s.1.axis), s.2.place (nth p s.2.axis))
/-- the laid faces of a row, one behind another: the last one's scales, the edges between -/
def layM (box : List Nat) (s : Scl × Scl) (f : Nat) : List Nat → (Scl × Scl) × List Edg
  | [] => (s, [])
  | g :: r => let z := layM box (beyondM box s f g) g r; (z.1, edgeM box s g :: z.2)
def throughM (a b : Int × Int) (e : Edg) : Bool :=
  let ac (p : Int × Int) : Int := if e.fst then p.1 else p.2
  let al (p : Int × Int) : Int := if e.fst then p.2 else p.1
  let run := ac b - ac a
  let before := e.wh - ac a
  if run = 0 then decide (before = 0) && (decide (min (al a) (al b) ≤ e.hi) && decide (e.lo ≤ max (al a) (al b)))
  else
    let run' := if run < 0 then -run else run
    let before' := if run < 0 then -before else before
    if before' < 0 ∨ run' < before' then false
    else
      let met := al a * run' + (al b - al a) * before'
      decide (e.lo * run' ≤ met) && decide (met ≤ e.hi * run')
def squareM (a b : Int × Int) : Int := (b.1 - a.1) ^ 2 + (b.2 - a.2) ^ 2
def alongM (box p q : List Nat) : List Nat → Option Int
  | [] => none
  | f :: r =>
    let s := firstM f
    let z := layM box s f r
    let a := spotM s p
    let b := spotM z.1 q
    if z.2.all (throughM a b) then some (squareM a b) else none

/-! ### the laid face as scales -/
def ax (f : Nat) : Nat := f / 2
structure Rel (box : List Nat) (l : Laid) (s : Scl × Scl) : Prop where
  fl : l.face < 6
  ne1 : s.1.axis < 3
  ne2 : s.2.axis < 3
  d1 : s.1.axis ≠ l.face / 2
  d2 : s.2.axis ≠ l.face / 2
  d3 : s.1.axis ≠ s.2.axis
  im : ∀ p, image l p = ⟨s.1.place (nth p s.1.axis), s.2.place (nth p s.2.axis)⟩
  w1 : wayOf l s.1.axis = ⟨s.1.sign, 0⟩
  w2 : wayOf l s.2.axis = ⟨0, s.2.sign⟩
  sg1 : s.1.sign = 1 ∨ s.1.sign = -1
  sg2 : s.2.sign = 1 ∨ s.2.sign = -1

theorem level_lev (box : List Nat) (f : Nat) : ((level box f : Nat) : Int) = lev box f := by
  unfold level lev axis atFar
  rcases Nat.mod_two_eq_zero_or_one f with h | h <;> simp [h]

theorem range3 : List.range 3 = [0, 1, 2] := rfl

theorem rel_first (box : List Nat) (f : Nat) (hf : f < 6) : Rel box (first box f) (firstM f) := by
  have h3 : f / 2 = 0 ∨ f / 2 = 1 ∨ f / 2 = 2 := by omega
  rcases h3 with h | h | h <;>
  · refine ⟨hf, ?_, ?_, ?_, ?_, ?_, ?_, ?_, ?_, ?_, ?_⟩
    all_goals try simp [firstM, first, axis, h, wayOf, range3]
    intro p
    simp [image, axis, h, range3, nth, plus, scaled, wayOf, Scl.place]

theorem rel_next (box : List Nat) (l : Laid) (s : Scl × Scl) (g : Nat) (R : Rel box l s) (hg : g < 6) (hb : l.face / 2 ≠ g / 2) :
    Rel box (unfolded box l g) (beyondM box s l.face g) := by
  obtain ⟨⟨a1, b1, c1⟩, ⟨a2, b2, c2⟩⟩ := s
  obtain ⟨fl, n1, n2, d1, d2, d3, im, w1, w2, sg1, sg2⟩ := R
  dsimp only at *
  have hk : l.face / 2 < 3 := by omega
  have hj : g / 2 < 3 := by omega
  have hl := level_lev box l.face
  have hl2 := level_lev box g
  have far1 : ∀ f, (if atFar f = true then (1 : Int) else -1) = sideI f := fun f => by
    unfold atFar sideI
    rcases Nat.mod_two_eq_zero_or_one f with h | h <;> simp [h]
  have far2 : ∀ f, (if atFar f = true then (-1 : Int) else 1) = - sideI f := fun f => by
    unfold atFar sideI
    rcases Nat.mod_two_eq_zero_or_one f with h | h <;> simp [h]
  have sd : ∀ f, sideI f = 1 ∨ sideI f = -1 := fun f => by
    unfold sideI
    rcases Nat.mod_two_eq_zero_or_one f with h | h <;> simp [h]
  have sf := sd l.face
  have sgg := sd g
  have ho : ∀ i, i < 3 → nth (edge box l.face g).1 i = if i = l.face / 2 then level box l.face else if i = g / 2 then level box g else 0 := fun i hi => by
    have : i = 0 ∨ i = 1 ∨ i = 2 := by omega
    rcases this with rfl | rfl | rfl <;> simp [edge, nth, range3, axis]
  have hw : ∀ i, i < 3 → wayOf (unfolded box l g) i = if i = g / 2 then ⟨0, 0⟩ else if i = l.face / 2 then scaled (- sideI l.face) (scaled (sideI g) (wayOf l (g / 2))) else wayOf l i := fun i hi => by
    have : i = 0 ∨ i = 1 ∨ i = 2 := by omega
    rcases this with rfl | rfl | rfl <;> simp [unfolded, wayOf, range3, axis, far1, far2]
  have hat : (unfolded box l g).at_ = image l (edge box l.face g).1 := rfl
  have hco : (unfolded box l g).corner = (edge box l.face g).1 := rfl
  have hfa : (unfolded box l g).face = g := rfl
  have himg : ∀ p, image (unfolded box l g) p = (List.range 3).foldl (fun (s : Flat) (k : Nat) => if k = g / 2 then s else plus s (scaled ((nth p k : Int) - (nth (edge box l.face g).1 k : Int)) (wayOf (unfolded box l g) k))) (image l (edge box l.face g).1) := fun p => rfl
  by_cases c : a1 = g / 2
  · subst c
    have e2 : a2 ≠ g / 2 := fun h => d3 h.symm
    have hb' : beyondM box (⟨g / 2, b1, c1⟩, ⟨a2, b2, c2⟩) l.face g = (⟨l.face / 2, (b1 + c1 * lev box g) - (-(c1 * sideI g) * sideI l.face) * lev box l.face, -(c1 * sideI g) * sideI l.face⟩, ⟨a2, b2, c2⟩) := by
      simp [beyondM, axCross, Scl.place]
    rw [hb']
    refine ⟨hg, hk, n2, hb, e2, (fun h => d2 h.symm), fun p => ?_, ?_, ?_, ?_, sg2⟩
    · rw [himg, im, range3]
      have h0 := ho 0 (by omega)
      have h1 := ho 1 (by omega)
      have h2 := ho 2 (by omega)
      have v0 := hw 0 (by omega)
      have v1 := hw 1 (by omega)
      have v2 := hw 2 (by omega)
      simp only [List.foldl]
      rw [h0, h1, h2, v0, v1, v2]
      have hkk : l.face / 2 = 0 ∨ l.face / 2 = 1 ∨ l.face / 2 = 2 := by omega
      have hjj : g / 2 = 0 ∨ g / 2 = 1 ∨ g / 2 = 2 := by omega
      have haa : a2 = 0 ∨ a2 = 1 ∨ a2 = 2 := by omega
      rcases hkk with k | k | k <;> rcases hjj with j | j | j <;> rcases haa with rfl | rfl | rfl <;> (try omega) <;>
        (simp [k, j] at w1 w2 ⊢; simp [w1, w2, plus, scaled, Scl.place, hl, hl2, h0, h1, h2, k, j]; try grind)
    · dsimp only
      rw [hw _ hk, if_neg (by omega), if_pos rfl, w1]
      simp [scaled]
      grind
    · dsimp only
      rw [hw _ n2, if_neg e2, if_neg (fun h => d2 h), w2]
    · dsimp only
      grind
  · have e2 : a2 = g / 2 := by omega
    subst e2
    have hb' : beyondM box (⟨a1, b1, c1⟩, ⟨g / 2, b2, c2⟩) l.face g = (⟨a1, b1, c1⟩, ⟨l.face / 2, (b2 + c2 * lev box g) - (-(c2 * sideI g) * sideI l.face) * lev box l.face, -(c2 * sideI g) * sideI l.face⟩) := by
      simp [beyondM, axCross, Scl.place, c]
    rw [hb']
    refine ⟨hg, n1, hk, c, hb, d1, fun p => ?_, ?_, ?_, sg1, ?_⟩
    · rw [himg, im, range3]
      have h0 := ho 0 (by omega)
      have h1 := ho 1 (by omega)
      have h2 := ho 2 (by omega)
      have v0 := hw 0 (by omega)
      have v1 := hw 1 (by omega)
      have v2 := hw 2 (by omega)
      simp only [List.foldl]
      rw [h0, h1, h2, v0, v1, v2]
      have hkk : l.face / 2 = 0 ∨ l.face / 2 = 1 ∨ l.face / 2 = 2 := by omega
      have hjj : g / 2 = 0 ∨ g / 2 = 1 ∨ g / 2 = 2 := by omega
      have haa : a1 = 0 ∨ a1 = 1 ∨ a1 = 2 := by omega
      rcases hkk with k | k | k <;> rcases hjj with j | j | j <;> rcases haa with rfl | rfl | rfl <;> (try omega) <;>
        (simp [k, j] at w1 w2 ⊢; simp [w1, w2, plus, scaled, Scl.place, hl, hl2, h0, h1, h2, k, j]; try grind)
    · dsimp only
      rw [hw _ n1, if_neg c, if_neg (fun h => d1 h), w1]
    · dsimp only
      rw [hw _ hk, if_neg (by omega), if_pos rfl, w2]
      simp [scaled]
      grind
    · dsimp only
      grind
end SF

/-! ## M2 -/
set_option Elab.async false
namespace SF
open Sy73

def fl (a : Int × Int) : Flat := ⟨a.1, a.2⟩
/-- along one coordinate: the line's span and the laid face's have a number in common -/
def Meet1 (x y : Int) (box : List Nat) (s : Scl) : Prop :=
  min x y ≤ max (s.place 0) (s.place (nth box s.axis)) ∧ min (s.place 0) (s.place (nth box s.axis)) ≤ max x y
def Touch (box : List Nat) (a b : Int × Int) (s : Scl × Scl) : Prop := Meet1 a.1 b.1 box s.1 ∧ Meet1 a.2 b.2 box s.2

theorem mul_le0 (a b : Int) : a * b ≤ 0 ↔ (a ≤ 0 ∧ 0 ≤ b) ∨ (0 ≤ a ∧ b ≤ 0) := by
  constructor
  · intro h
    by_cases ha : a = 0
    · subst ha
      by_cases hb : 0 ≤ b
      · exact .inl ⟨Int.le_refl _, hb⟩
      · exact .inr ⟨Int.le_refl _, by omega⟩
    by_cases hb : b = 0
    · subst hb
      by_cases ha : 0 ≤ a
      · exact .inr ⟨ha, Int.le_refl _⟩
      · exact .inl ⟨by omega, Int.le_refl _⟩
    by_cases pa : 0 < a
    · by_cases pb : 0 < b
      · have := Int.mul_pos pa pb
        omega
      · exact .inr ⟨by omega, by omega⟩
    · by_cases pb : 0 < b
      · exact .inl ⟨by omega, by omega⟩
      · have := Int.mul_pos_of_neg_of_neg (a := a) (b := b) (by omega) (by omega)
        omega
  · rintro (⟨h1, h2⟩ | ⟨h1, h2⟩)
    · exact Int.mul_nonpos_of_nonpos_of_nonneg h1 h2
    · exact Int.mul_nonpos_of_nonneg_of_nonpos h1 h2

/-- the test in one dimension: A, B: the line's ends across; x, y: along; w: where; u, v: the edge's ends along, u ≠ v -/
def test1 (A B x y w u v : Int) : Bool :=
  decide (((B - A) * (u - x) - (y - x) * (w - A)) * ((B - A) * (v - x) - (y - x) * (w - A)) ≤ 0) && decide ((A - w) * (B - w) ≤ 0)
def through1 (A B x y w lo hi : Int) : Bool :=
  let run := B - A
  let before := w - A
  if run = 0 then decide (before = 0) && (decide (min x y ≤ hi) && decide (lo ≤ max x y))
  else
    let run' := if run < 0 then -run else run
    let before' := if run < 0 then -before else before
    if before' < 0 ∨ run' < before' then false
    else
      let met := x * run' + (y - x) * before'
      decide (lo * run' ≤ met) && decide (met ≤ hi * run')

theorem mul_le_iff (r : Int) (hr : 0 < r) (a m b : Int) : (r * a - m) * (r * b - m) ≤ 0 ↔ min a b * r ≤ m ∧ m ≤ max a b * r := by
  rw [mul_le0]
  rcases Int.le_total a b with h | h
  · have h1 : r * a ≤ r * b := Int.mul_le_mul_of_nonneg_left h (by omega)
    rw [Int.min_eq_left h, Int.max_eq_right h, Int.mul_comm a r, Int.mul_comm b r]
    omega
  · have h1 : r * b ≤ r * a := Int.mul_le_mul_of_nonneg_left h (by omega)
    rw [Int.min_eq_right h, Int.max_eq_left h, Int.mul_comm a r, Int.mul_comm b r]
    omega

theorem test_through (A B x y w u v : Int) (h : A = B → A = w → min x y ≤ max u v ∧ min u v ≤ max x y) : test1 A B x y w u v = through1 A B x y w (min u v) (max u v) := by
  unfold test1 through1
  rw [Bool.eq_iff_iff]
  by_cases c : B - A = 0
  · have e : B = A := by omega
    subst e
    simp only [c, if_pos]
    by_cases k : w = B
    · subst k
      have := h rfl rfl
      simp [this.1, this.2]
    · have k1 : ¬ (w - B = 0) := by omega
      have k2 : ¬ ((B - w) * (B - w) ≤ 0) := by
        rw [mul_le0]
        omega
      simp [k1, k2]
  · dsimp only
    rw [if_neg c]
    by_cases n : B - A < 0
    · simp only [if_pos n]
      by_cases k : -(w - A) < 0 ∨ -(B - A) < -(w - A)
      · simp only [if_pos k]
        have k2 : ¬ ((A - w) * (B - w) ≤ 0) := by
          rw [mul_le0]
          omega
        simp [k2]
      · simp only [if_neg k]
        have k2 : (A - w) * (B - w) ≤ 0 := by
          rw [mul_le0]
          omega
        simp only [k2, decide_true, Bool.and_true, decide_eq_true_eq, Bool.and_eq_true]
        have e := mul_le_iff (-(B - A)) (by omega) u (x * -(B - A) + (y - x) * -(w - A)) v
        rw [← e]
        have : ((B - A) * (u - x) - (y - x) * (w - A)) * ((B - A) * (v - x) - (y - x) * (w - A)) = (-(B - A) * u - (x * -(B - A) + (y - x) * -(w - A))) * (-(B - A) * v - (x * -(B - A) + (y - x) * -(w - A))) := by grind
        rw [this]
    · simp only [if_neg n]
      by_cases k : (w - A) < 0 ∨ (B - A) < (w - A)
      · simp only [if_pos k]
        have k2 : ¬ ((A - w) * (B - w) ≤ 0) := by
          rw [mul_le0]
          omega
        simp [k2]
      · simp only [if_neg k]
        have k2 : (A - w) * (B - w) ≤ 0 := by
          rw [mul_le0]
          omega
        simp only [k2, decide_true, Bool.and_true, decide_eq_true_eq, Bool.and_eq_true]
        have e := mul_le_iff (B - A) (by omega) u (x * (B - A) + (y - x) * (w - A)) v
        rw [← e]
        have : ((B - A) * (u - x) - (y - x) * (w - A)) * ((B - A) * (v - x) - (y - x) * (w - A)) = ((B - A) * u - (x * (B - A) + (y - x) * (w - A))) * ((B - A) * v - (x * (B - A) + (y - x) * (w - A))) := by grind
        rw [this]

/-- what is gone through: the line's span has the edge's place across, and meets the edge's span along -/
theorem through_span (A B x y w lo hi : Int) (h : through1 A B x y w lo hi = true) :
    (min A B ≤ w ∧ w ≤ max A B) ∧ (min x y ≤ hi ∧ lo ≤ max x y) := by
  unfold through1 at h
  dsimp only at h
  by_cases c : B - A = 0
  · rw [if_pos c] at h
    simp only [Bool.and_eq_true, decide_eq_true_eq] at h
    exact ⟨by omega, h.2⟩
  · rw [if_neg c] at h
    have key : ∀ r f : Int, 0 < r → 0 ≤ f → f ≤ r → lo * r ≤ x * r + (y - x) * f → x * r + (y - x) * f ≤ hi * r → min x y ≤ hi ∧ lo ≤ max x y := by
      intro r f hr hf hfr h1 h2
      have e : x * r + (y - x) * f = x * (r - f) + y * f := by grind
      rw [e] at h1 h2
      have lx : min x y * (r - f) ≤ x * (r - f) := Int.mul_le_mul_of_nonneg_right (Int.min_le_left ..) (by omega)
      have ly : min x y * f ≤ y * f := Int.mul_le_mul_of_nonneg_right (Int.min_le_right ..) hf
      have ux : x * (r - f) ≤ max x y * (r - f) := Int.mul_le_mul_of_nonneg_right (Int.le_max_left ..) (by omega)
      have uy : y * f ≤ max x y * f := Int.mul_le_mul_of_nonneg_right (Int.le_max_right ..) hf
      have s1 : min x y * r = min x y * (r - f) + min x y * f := by grind
      have s2 : max x y * r = max x y * (r - f) + max x y * f := by grind
      constructor
      · exact Int.le_of_mul_le_mul_right (a := r) (by omega) hr
      · exact Int.le_of_mul_le_mul_right (a := r) (by omega) hr
    by_cases n : B - A < 0
    · simp only [if_pos n] at h
      by_cases k : -(w - A) < 0 ∨ -(B - A) < -(w - A)
      · rw [if_pos k] at h
        cases h
      · rw [if_neg k] at h
        simp only [Bool.and_eq_true, decide_eq_true_eq] at h
        exact ⟨by omega, key _ _ (by omega) (by omega) (by omega) h.1 h.2⟩
    · simp only [if_neg n] at h
      by_cases k : (w - A) < 0 ∨ (B - A) < (w - A)
      · rw [if_pos k] at h
        cases h
      · rw [if_neg k] at h
        simp only [Bool.and_eq_true, decide_eq_true_eq] at h
        exact ⟨by omega, key _ _ (by omega) (by omega) (by omega) h.1 h.2⟩

theorem throughM_eq (a b : Int × Int) (e : Edg) : throughM a b e = if e.fst then through1 a.1 b.1 a.2 b.2 e.wh e.lo e.hi else through1 a.2 b.2 a.1 b.1 e.wh e.lo e.hi := by
  obtain ⟨f, w, lo, hi⟩ := e
  cases f <;> rfl

/-- the image of the edge -/
theorem edge_image {box : List Nat} {l : Laid} {s : Scl × Scl} {g : Nat} (R : Rel box l s) (hg : g < 6) (hb : l.face / 2 ≠ g / 2) :
    (if axCross s g then (image l (edge box l.face g).1 = ⟨s.1.place (lev box g), s.2.place 0⟩ ∧ image l (edge box l.face g).2 = ⟨s.1.place (lev box g), s.2.place (nth box s.2.axis)⟩)
     else (image l (edge box l.face g).1 = ⟨s.1.place 0, s.2.place (lev box g)⟩ ∧ image l (edge box l.face g).2 = ⟨s.1.place (nth box s.1.axis), s.2.place (lev box g)⟩)) := by
  obtain ⟨⟨a1, b1, c1⟩, ⟨a2, b2, c2⟩⟩ := s
  obtain ⟨fl, n1, n2, d1, d2, d3, im, w1, w2, sg1, sg2⟩ := R
  dsimp only at *
  rw [im, im]
  have hl2 := level_lev box g
  have hk : l.face / 2 < 3 := by omega
  have hj : g / 2 < 3 := by omega
  have ho : ∀ i, i < 3 → nth (edge box l.face g).1 i = if i = l.face / 2 then level box l.face else if i = g / 2 then level box g else 0 := fun i hi => by
    have : i = 0 ∨ i = 1 ∨ i = 2 := by omega
    rcases this with rfl | rfl | rfl <;> simp [edge, nth, range3, axis]
  have ho2 : ∀ i, i < 3 → nth (edge box l.face g).2 i = if i = l.face / 2 then level box l.face else if i = g / 2 then level box g else nth box i := fun i hi => by
    have : i = 0 ∨ i = 1 ∨ i = 2 := by omega
    rcases this with rfl | rfl | rfl <;> simp [edge, nth, range3, axis]
  rw [ho _ n1, ho _ n2, ho2 _ n1, ho2 _ n2]
  by_cases c : a1 = g / 2
  · subst c
    have e2 : ¬ a2 = g / 2 := fun h => d3 h.symm
    simp [axCross, d1, d2, e2, hl2]
  · have e2 : a2 = g / 2 := by omega
    subst e2
    simp [axCross, d1, d2, c, hl2]

theorem len_sq (s : Scl) (h : s.sign = 1 ∨ s.sign = -1) (n : Nat) (hn : 0 < n) : s.place 0 ≠ s.place n := by
  unfold Scl.place
  rcases h with e | e <;> rw [e] <;> omega

theorem meets_eq {box : List Nat} {l : Laid} {s : Scl × Scl} {g : Nat} {a b : Int × Int} (R : Rel box l s) (hg : g < 6) (hb : l.face / 2 ≠ g / 2)
    (hbox : ∀ i, i < 3 → 0 < nth box i) (T : Touch box a b s) :
    meets (fl a) (fl b) (image l (edge box l.face g).1, image l (edge box l.face g).2) = throughM a b (edgeM box s g) := by
  have E := edge_image R hg hb
  rw [throughM_eq]
  obtain ⟨ax', ay'⟩ := a
  obtain ⟨bx', by'⟩ := b
  have key : ∀ A B x y w u v : Int, u ≠ v → (decide (((B - A) * (u - x) - (y - x) * (w - A)) * ((B - A) * (v - x) - (y - x) * (w - A)) ≤ 0) && decide (((v - u) * (A - w)) * ((v - u) * (B - w)) ≤ 0)) = test1 A B x y w u v := by
    intro A B x y w u v huv
    unfold test1
    congr 1
    have h : ((v - u) * (A - w)) * ((v - u) * (B - w)) = ((v - u) * (v - u)) * ((A - w) * (B - w)) := by grind
    rw [h]
    have hp : 0 < (v - u) * (v - u) := by
      have : v - u ≠ 0 := by omega
      rcases Int.lt_or_gt_of_ne this with q | q
      · exact Int.mul_pos_of_neg_of_neg q q
      · exact Int.mul_pos q q
    rw [decide_eq_decide]
    constructor
    · intro q
      by_cases z : (A - w) * (B - w) ≤ 0
      · exact z
      · have := Int.mul_pos hp (show 0 < (A - w) * (B - w) by omega)
        omega
    · intro q
      exact Int.mul_nonpos_of_nonneg_of_nonpos (by omega) q
  by_cases c : axCross s g = true
  · rw [if_pos c] at E
    rw [E.1, E.2]
    have hne := len_sq s.2 R.sg2 _ (hbox _ R.ne2)
    have eE : edgeM box s g = ⟨true, s.1.place (lev box g), min (s.2.place 0) (s.2.place (nth box s.2.axis)), max (s.2.place 0) (s.2.place (nth box s.2.axis))⟩ := by
      unfold edgeM
      rw [c]
      rfl
    rw [eE]
    show meets _ _ _ = through1 ax' bx' ay' by' _ _ _
    rw [← test_through ax' bx' ay' by' _ _ _ (fun _ _ => T.2), ← key _ _ _ _ _ _ _ hne]
    unfold meets cross minus fl
    dsimp only
    congr 1
    rw [decide_eq_decide]
    have z1 : ∀ w' : Int, w' - w' = 0 := fun w' => by omega
    rw [z1]
    have : ∀ u v A B w y1 y2 : Int, (0 * y1 - (v - u) * (A - w)) * (0 * y2 - (v - u) * (B - w)) = (v - u) * (A - w) * ((v - u) * (B - w)) := by
      intros
      grind
    rw [this]
  · rw [if_neg c] at E
    rw [E.1, E.2]
    have hne := len_sq s.1 R.sg1 _ (hbox _ R.ne1)
    have c' : axCross s g = false := by simpa using c
    have eE : edgeM box s g = ⟨false, s.2.place (lev box g), min (s.1.place 0) (s.1.place (nth box s.1.axis)), max (s.1.place 0) (s.1.place (nth box s.1.axis))⟩ := by
      unfold edgeM
      rw [c']
      rfl
    rw [eE]
    show meets _ _ _ = through1 ay' by' ax' bx' _ _ _
    rw [← test_through ay' by' ax' bx' _ _ _ (fun _ _ => T.1), ← key _ _ _ _ _ _ _ hne]
    unfold meets cross minus fl
    dsimp only
    have z1 : ∀ w' : Int, w' - w' = 0 := fun w' => by omega
    rw [z1]
    congr 1
    · rw [decide_eq_decide]
      have : ∀ A B x y w u v : Int, ((y - x) * (w - A) - (B - A) * (u - x)) * ((y - x) * (w - A) - (B - A) * (v - x)) = ((B - A) * (u - x) - (y - x) * (w - A)) * ((B - A) * (v - x) - (y - x) * (w - A)) := by
        intros
        grind
      rw [this]
    · rw [decide_eq_decide]
      have : ∀ u v A B w y1 y2 : Int, ((v - u) * (A - w) - 0 * y1) * ((v - u) * (B - w) - 0 * y2) = (v - u) * (A - w) * ((v - u) * (B - w)) := by
        intros
        grind
      rw [this]

theorem touch_next {box : List Nat} {l : Laid} {s : Scl × Scl} {g : Nat} {a b : Int × Int} (R : Rel box l s) (hg : g < 6) (hb : l.face / 2 ≠ g / 2)
    (h : throughM a b (edgeM box s g) = true) : Touch box a b (beyondM box s l.face g) := by
  rw [throughM_eq] at h
  obtain ⟨ax', ay'⟩ := a
  obtain ⟨bx', by'⟩ := b
  obtain ⟨⟨a1, b1, c1⟩, ⟨a2, b2, c2⟩⟩ := s
  have hlev : lev box l.face = 0 ∨ lev box l.face = nth box (l.face / 2) := by
    unfold lev
    rcases Nat.mod_two_eq_zero_or_one l.face with h | h <;> simp [h]
  have newS : ∀ wh sg x y : Int, min x y ≤ wh → wh ≤ max x y → Meet1 x y box ⟨l.face / 2, wh - sg * lev box l.face, sg⟩ := by
    intro wh sg x y h1 h2
    unfold Meet1 Scl.place
    dsimp only
    rcases hlev with e | e <;> rw [e] <;> constructor <;> omega
  by_cases c : axCross (⟨a1, b1, c1⟩, ⟨a2, b2, c2⟩) g = true
  · obtain ⟨sg, e1⟩ : ∃ sg, beyondM box (⟨a1, b1, c1⟩, ⟨a2, b2, c2⟩) l.face g = (⟨l.face / 2, Scl.place ⟨a1, b1, c1⟩ (lev box g) - sg * lev box l.face, sg⟩, ⟨a2, b2, c2⟩) := by
      unfold beyondM
      rw [c]
      exact ⟨_, rfl⟩
    have e2 : (edgeM box (⟨a1, b1, c1⟩, ⟨a2, b2, c2⟩) g) = ⟨true, Scl.place ⟨a1, b1, c1⟩ (lev box g), min (Scl.place ⟨a2, b2, c2⟩ 0) (Scl.place ⟨a2, b2, c2⟩ (nth box a2)), max (Scl.place ⟨a2, b2, c2⟩ 0) (Scl.place ⟨a2, b2, c2⟩ (nth box a2))⟩ := by
      unfold edgeM
      rw [c]
      rfl
    rw [e2] at h
    have sp := through_span _ _ _ _ _ _ _ h
    rw [e1]
    exact ⟨newS _ _ _ _ sp.1.1 sp.1.2, sp.2⟩
  · have c' : axCross (⟨a1, b1, c1⟩, ⟨a2, b2, c2⟩) g = false := by simpa using c
    obtain ⟨sg, e1⟩ : ∃ sg, beyondM box (⟨a1, b1, c1⟩, ⟨a2, b2, c2⟩) l.face g = (⟨a1, b1, c1⟩, ⟨l.face / 2, Scl.place ⟨a2, b2, c2⟩ (lev box g) - sg * lev box l.face, sg⟩) := by
      unfold beyondM
      rw [c']
      exact ⟨_, rfl⟩
    have e2 : (edgeM box (⟨a1, b1, c1⟩, ⟨a2, b2, c2⟩) g) = ⟨false, Scl.place ⟨a2, b2, c2⟩ (lev box g), min (Scl.place ⟨a1, b1, c1⟩ 0) (Scl.place ⟨a1, b1, c1⟩ (nth box a1)), max (Scl.place ⟨a1, b1, c1⟩ 0) (Scl.place ⟨a1, b1, c1⟩ (nth box a1))⟩ := by
      unfold edgeM
      rw [c']
      rfl
    rw [e2] at h
    have sp := through_span _ _ _ _ _ _ _ h
    rw [e1]
    exact ⟨sp.2, newS _ _ _ _ sp.1.1 sp.1.2⟩

/-- each face beside the one before -/
def linkedB : Nat → List Nat → Bool
  | _, [] => true
  | f, g :: r => decide (g < 6) && (f / 2 != g / 2) && linkedB g r

theorem chain_all {box : List Nat} {a b : Int × Int} (hbox : ∀ i, i < 3 → 0 < nth box i) : ∀ (r : List Nat) (l : Laid) (s : Scl × Scl), Rel box l s → linkedB l.face r = true → Touch box a b s →
    (chain box l r).2.all (meets (fl a) (fl b)) = (layM box s l.face r).2.all (throughM a b)
  | [], _, _, _, _, _ => rfl
  | g :: r, l, s, R, hl, T => by
    simp only [linkedB, Bool.and_eq_true, decide_eq_true_eq, bne_iff_ne] at hl
    obtain ⟨⟨hg, hb⟩, hr⟩ := hl
    show (meets (fl a) (fl b) (image l (edge box l.face g).1, image l (edge box l.face g).2) && (chain box (unfolded box l g) r).2.all (meets (fl a) (fl b))) = (throughM a b (edgeM box s g) && (layM box (beyondM box s l.face g) g r).2.all (throughM a b))
    rw [meets_eq R hg hb hbox T]
    cases h : throughM a b (edgeM box s g)
    · rfl
    · rw [chain_all hbox r (unfolded box l g) (beyondM box s l.face g) (rel_next box l s g R hg hb) hr (touch_next R hg hb h)]
      rfl
theorem chain_rel {box : List Nat} : ∀ (r : List Nat) (l : Laid) (s : Scl × Scl), Rel box l s → linkedB l.face r = true → Rel box (chain box l r).1 (layM box s l.face r).1
  | [], _, _, R, _ => R
  | g :: r, l, s, R, hl => by
    simp only [linkedB, Bool.and_eq_true, decide_eq_true_eq, bne_iff_ne] at hl
    obtain ⟨⟨hg, hb⟩, hr⟩ := hl
    exact chain_rel r (unfolded box l g) (beyondM box s l.face g) (rel_next box l s g R hg hb) hr

/-- **the straight way of the program is the specification's** -/
theorem along_eq {box p q : List Nat} {f : Nat} {r : List Nat} (hbox : ∀ i, i < 3 → 0 < nth box i) (hp : ∀ i, i < 3 → nth p i ≤ nth box i) (hf : f < 6) (hl : linkedB f r = true) :
    along box p q (f :: r) = alongM box p q (f :: r) := by
  have R := rel_first box f hf
  have R2 := chain_rel r (first box f) (firstM f) R hl
  have ea : image (first box f) p = fl (spotM (firstM f) p) := R.im p
  have eb : image (chain box (first box f) r).1 q = fl (spotM (layM box (firstM f) f r).1 q) := R2.im q
  have m1 : ∀ (s : Scl), s.axis < 3 → (s.sign = 1 ∨ s.sign = -1) → ∀ y, Meet1 (s.place (nth p s.axis)) y box s := by
    intro s hs sg y
    have := hp _ hs
    unfold Meet1 Scl.place
    rcases sg with e | e <;> rw [e] <;> constructor <;> omega
  have T : Touch box (spotM (firstM f) p) (spotM (layM box (firstM f) f r).1 q) (firstM f) := ⟨m1 _ R.ne1 R.sg1 _, m1 _ R.ne2 R.sg2 _⟩
  have C := chain_all hbox r (first box f) (firstM f) R hl T
  show (if (chain box (first box f) r).2.all (meets (image (first box f) p) (image (chain box (first box f) r).1 q)) = true then some (square (minus (image (chain box (first box f) r).1 q) (image (first box f) p))) else none) = (if (layM box (firstM f) f r).2.all (throughM (spotM (firstM f) p) (spotM (layM box (firstM f) f r).1 q)) then some (squareM (spotM (firstM f) p) (spotM (layM box (firstM f) f r).1 q)) else none)
  rw [ea, eb, C]
  have sq : ∀ a b : Int × Int, square (minus (fl b) (fl a)) = squareM a b := by
    intro a b
    unfold square minus fl squareM
    dsimp only
    rw [Int.pow_succ, Int.pow_succ, Int.pow_zero, Int.pow_succ, Int.pow_succ, Int.pow_zero, Int.one_mul, Int.one_mul]
  rw [sq]
  rfl
end SF

/-! ## M3 -/
set_option Elab.async false
set_option maxRecDepth 100000
namespace SF
open Sy73

def canM (row : List Nat) (g : Nat) : Bool := !row.contains g && (row.getLast?).any (beside g)
def rowsBegM : Nat → List Nat → List (List Nat)
  | 0, row => [row]
  | n + 1, row => row :: ((List.range 6).filter (canM row)).flatMap fun f => rowsBegM n (row ++ [f])
theorem rowsBeg_eq : ∀ (n : Nat) (row : List Nat), rowsBegM n row = (rows n row).map (row ++ ·)
  | 0, row => by simp [rowsBegM, rows]
  | n + 1, row => by
    have ih := fun r => rowsBeg_eq n r
    unfold rowsBegM rows
    simp only [List.map_cons, List.append_nil, List.map_flatMap, List.map_map]
    congr 1
    have e : (fun f => rowsBegM n (row ++ [f])) = fun g => List.map ((fun x => row ++ x) ∘ fun r => g :: r) (rows n (row ++ [g])) := by
      funext f
      rw [ih]
      apply List.map_congr_left
      intro r _
      simp
    rw [e]
    rfl
/-- fuel enough: no face may follow where it's used up -/
def enoughB : Nat → List Nat → Bool
  | 0, row => (List.range 6).all fun f => !canM row f
  | n + 1, row => ((List.range 6).filter (canM row)).all fun f => enoughB n (row ++ [f])
theorem enough6 : ∀ f, f < 6 → enoughB 5 [f] = true := by
  have h : (List.range 6).all (fun f => enoughB 5 [f]) = true := by decide +kernel
  intro f hf
  exact List.all_eq_true.mp h f (List.mem_range.mpr hf)
theorem linked6 : ∀ f, f < 6 → ∀ r ∈ rows 5 [f], linkedB f r = true := by
  have h : (List.range 6).all (fun f => (rows 5 [f]).all (linkedB f)) = true := by decide +kernel
  intro f hf r hr
  exact List.all_eq_true.mp (List.all_eq_true.mp h f (List.mem_range.mpr hf)) r hr

/-! ### the order of rows -/
def lexB : List Nat → List Nat → Bool
  | [], [] => false
  | [], _ :: _ => true
  | _ :: _, [] => false
  | a :: l, b :: r => decide (a < b) || (a == b && lexB l r)
theorem lexB_trans : ∀ {a b c : List Nat}, lexB a b = true → lexB b c = true → lexB a c = true
  | [], [], _, h, _ => by cases h
  | [], _ :: _, [], _, h => by cases h
  | [], _ :: _, _ :: _, _, _ => rfl
  | _ :: _, [], _, h, _ => by cases h
  | _ :: _, _ :: _, [], _, h => by cases h
  | a :: l, b :: r, c :: t, h1, h2 => by
    simp only [lexB, Bool.or_eq_true, decide_eq_true_eq, Bool.and_eq_true, beq_iff_eq] at h1 h2 ⊢
    rcases h1 with h1 | ⟨h1, k1⟩ <;> rcases h2 with h2 | ⟨h2, k2⟩
    · exact .inl (by omega)
    · exact .inl (by omega)
    · exact .inl (by omega)
    · exact .inr ⟨by omega, lexB_trans k1 k2⟩
theorem lexB_irrefl : ∀ (a : List Nat), lexB a a = false
  | [] => rfl
  | a :: l => by simp [lexB, lexB_irrefl l]
theorem lexB_asymm {a b : List Nat} (h : lexB a b = true) : lexB b a = false := by
  cases k : lexB b a
  · rfl
  · have := lexB_trans h k
    rw [lexB_irrefl] at this
    cases this
def risingB : List (List Nat) → Bool
  | a :: b :: l => lexB a b && risingB (b :: l)
  | _ => true
theorem rising_pw : ∀ {l : List (List Nat)}, risingB l = true → l.Pairwise (fun a b => lexB a b = true)
  | [], _ => .nil
  | [a], _ => by simp
  | a :: b :: l, h => by
    simp only [risingB, Bool.and_eq_true] at h
    have ih := rising_pw h.2
    refine List.pairwise_cons.mpr ⟨fun c hc => ?_, ih⟩
    rcases List.mem_cons.mp hc with rfl | hc
    · exact h.1
    · exact lexB_trans h.1 ((List.pairwise_cons.mp ih).1 c hc)
def rowsFrom (f : Nat) : List (List Nat) := (rows 5 [f]).map fun r => f :: r
theorem all_rising : ((List.range 6).flatMap rowsFrom).Pairwise (fun a b => lexB a b = true) := rising_pw (by decide +kernel)
theorem flatMap_sub {α β : Type} (f : α → List β) {l r : List α} (h : l.Sublist r) : (l.flatMap f).Sublist (r.flatMap f) := by
  induction h with
  | slnil => exact .slnil
  | cons a _ ih =>
    rw [List.flatMap_cons]
    exact ih.trans (List.sublist_append_right ..)
  | cons_cons a _ ih =>
    rw [List.flatMap_cons, List.flatMap_cons]
    exact (List.Sublist.refl _).append ih

theorem filterMap_congr' {α β : Type} {f g : α → Option β} : ∀ {l : List α}, (∀ x ∈ l, f x = g x) → l.filterMap f = l.filterMap g
  | [], _ => rfl
  | a :: l, h => by
    rw [List.filterMap_cons, List.filterMap_cons, h a (.head _), filterMap_congr' (l := l) fun x hx => h x (.tail _ hx)]
/-! ### the ways -/
def joinM (fs ls : List Nat) : List (List Nat) := fs.flatMap fun f => (rowsBegM 5 [f]).filter fun r => (r.getLast?).any fun x => ls.contains x
def waysM (box p q : List Nat) : List (Int × List Nat) := (joinM (facesOf box p) (facesOf box q)).filterMap fun r => (alongM box p q r).map fun d => (d, r)
def flip2 (x : Int × List Nat) : List Nat × Int := (x.2, x.1)

theorem mem_facesOf {box p : List Nat} {f : Nat} (h : f ∈ facesOf box p) : f < 6 := List.mem_range.mp (List.mem_filter.mp h).1
theorem facesOf_contains (box p : List Nat) (f : Nat) (h : f < 6) : (facesOf box p).contains f = onFace box p f := by
  rw [Bool.eq_iff_iff, List.contains_iff_mem]
  unfold facesOf
  rw [List.mem_filter, List.mem_range]
  exact ⟨fun q => q.2, fun q => ⟨h, q⟩⟩
theorem linked_mem : ∀ {r : List Nat} {f : Nat}, linkedB f r = true → ∀ x ∈ r, x < 6
  | [], _, _, _, hx => by cases hx
  | g :: r, f, h, x, hx => by
    simp only [linkedB, Bool.and_eq_true, decide_eq_true_eq] at h
    rcases List.mem_cons.mp hx with rfl | hx
    · exact h.1.1
    · exact linked_mem h.2 x hx
theorem linked_last {r : List Nat} {f : Nat} (hf : f < 6) (h : linkedB f r = true) : ∀ x, (f :: r).getLast? = some x → x < 6 := by
  intro x hx
  have := List.mem_of_getLast? hx
  rcases List.mem_cons.mp this with rfl | hm
  · exact hf
  · exact linked_mem h x hm
theorem rowsBeg5 (f : Nat) : rowsBegM 5 [f] = rowsFrom f := by
  rw [rowsBeg_eq]
  rfl
theorem mem_rowsFrom {f : Nat} {r : List Nat} (h : r ∈ rowsFrom f) : ∃ t, r = f :: t ∧ t ∈ rows 5 [f] := by
  unfold rowsFrom at h
  obtain ⟨t, ht, e⟩ := List.mem_map.mp h
  exact ⟨t, e.symm, ht⟩
theorem ways_eq {box p q : List Nat} (hbox : ∀ i, i < 3 → 0 < nth box i) (hp : ∀ i, i < 3 → nth p i ≤ nth box i) : ways box p q = (waysM box p q).map flip2 := by
  unfold ways waysM joinM
  have e0 : ((facesOf box p).flatMap fun f => (rowsBegM 5 [f]).filter fun r => (r.getLast?).any fun x => (facesOf box q).contains x) = ((facesOf box p).flatMap rowsFrom).filter (fun r => (r.getLast?).any (onFace box q)) := by
    rw [List.filter_flatMap]
    refine congrArg List.flatten (List.map_congr_left fun f hf => ?_)
    rw [rowsBeg5]
    refine List.filter_congr fun r hr => ?_
    obtain ⟨t, rfl, ht⟩ := mem_rowsFrom hr
    have hf6 := mem_facesOf hf
    have hl := linked_last hf6 (linked6 f hf6 t ht)
    cases e : (f :: t).getLast? with
    | none => rfl
    | some x => exact facesOf_contains box q x (hl x e)
  rw [e0, List.filterMap_filter, List.map_filterMap]
  refine filterMap_congr' fun r hr => ?_
  obtain ⟨f, hf, hr⟩ := List.mem_flatMap.mp hr
  obtain ⟨t, rfl, ht⟩ := mem_rowsFrom hr
  have hf6 := mem_facesOf hf
  rw [along_eq hbox hp hf6 (linked6 f hf6 t ht)]
  by_cases c : ((f :: t).getLast?).any (onFace box q) = true
  · rw [if_pos c, if_pos c]
    cases alongM box p q (f :: t) <;> rfl
  · rw [if_neg c, if_neg c]
    rfl
theorem waysM_rising (box p q : List Nat) : (waysM box p q).Pairwise (fun a b => lexB a.2 b.2 = true) := by
  have h1 : (joinM (facesOf box p) (facesOf box q)).Pairwise (fun a b => lexB a b = true) := by
    have s : (joinM (facesOf box p) (facesOf box q)).Sublist ((List.range 6).flatMap rowsFrom) := by
      unfold joinM
      rw [← List.filter_flatMap]
      have e : (fun f => rowsBegM 5 [f]) = rowsFrom := funext rowsBeg5
      rw [e]
      exact List.filter_sublist.trans (flatMap_sub _ List.filter_sublist)
    exact all_rising.sublist s
  unfold waysM
  refine List.Pairwise.filterMap _ (fun a b hab x hx y hy => ?_) h1
  cases ea : alongM box p q a <;> rw [ea] at hx <;> cases hx
  cases eb : alongM box p q b <;> rw [eb] at hy <;> cases hy
  exact hab

/-! ### the shortest -/
def keyLt (a b : Int × List Nat) : Bool := decide (a.1 < b.1) || (decide (a.1 = b.1) && (decide (a.2.length < b.2.length) || (decide (a.2.length = b.2.length) && lexB a.2 b.2)))
def bestM (x : Int × List Nat) (l : List (Int × List Nat)) : Int × List Nat := l.foldl (fun m y => if keyLt y m then y else m) x
theorem best_eq : ∀ (l : List (Int × List Nat)) (m : Int × List Nat), (∀ y ∈ l, lexB m.2 y.2 = true) → l.Pairwise (fun a b => lexB a.2 b.2 = true) →
    (l.map flip2).foldl (fun (m y : List Nat × Int) => if y.2 < m.2 ∨ (y.2 = m.2 ∧ y.1.length < m.1.length) then y else m) (flip2 m) = flip2 (bestM m l)
  | [], _, _, _ => rfl
  | y :: l, m, h, hp => by
    have hy := lexB_asymm (h y (.head _))
    obtain ⟨p1, p2⟩ := List.pairwise_cons.mp hp
    show (l.map flip2).foldl _ (if (flip2 y).2 < (flip2 m).2 ∨ ((flip2 y).2 = (flip2 m).2 ∧ (flip2 y).1.length < (flip2 m).1.length) then flip2 y else flip2 m) = flip2 (bestM (if keyLt y m = true then y else m) l)
    have k : keyLt y m = true ↔ ((flip2 y).2 < (flip2 m).2 ∨ ((flip2 y).2 = (flip2 m).2 ∧ (flip2 y).1.length < (flip2 m).1.length)) := by
      unfold keyLt flip2
      rw [hy]
      simp
    by_cases c : keyLt y m = true
    · rw [if_pos (k.mp c), if_pos c]
      exact best_eq l y p1 p2
    · rw [if_neg (fun q => c (k.mpr q)), if_neg c]
      exact best_eq l m (fun z hz => h z (.tail _ hz)) p2
theorem best_mem : ∀ (l : List (Int × List Nat)) (m : Int × List Nat), bestM m l ∈ m :: l
  | [], m => .head _
  | y :: l, m => by
    show bestM (if keyLt y m = true then y else m) l ∈ m :: y :: l
    by_cases c : keyLt y m = true
    · rw [if_pos c]
      exact .tail _ (best_mem l y)
    · rw [if_neg c]
      rcases List.mem_cons.mp (best_mem l m) with h | h
      · rw [h]
        exact .head _
      · exact .tail _ (.tail _ h)
theorem best_le : ∀ (l : List (Int × List Nat)) (m : Int × List Nat), ∀ y ∈ m :: l, (bestM m l).1 ≤ y.1
  | [], m, y, hy => by
    rw [List.mem_singleton.mp hy]
    exact Int.le_refl _
  | z :: l, m, y, hy => by
    show (bestM (if keyLt z m = true then z else m) l).1 ≤ y.1
    have k : keyLt z m = true → z.1 ≤ m.1 := by
      unfold keyLt
      simp only [Bool.or_eq_true, Bool.and_eq_true, decide_eq_true_eq]
      omega
    have k2 : ¬ keyLt z m = true → m.1 ≤ z.1 := by
      unfold keyLt
      simp only [Bool.or_eq_true, Bool.and_eq_true, decide_eq_true_eq]
      omega
    by_cases c : keyLt z m = true
    · rw [if_pos c]
      have h1 := best_le l z z (.head _)
      rcases List.mem_cons.mp hy with rfl | hy
      · have := k c
        omega
      · rcases List.mem_cons.mp hy with rfl | hy
        · exact h1
        · exact best_le l z y (.tail _ hy)
    · rw [if_neg c]
      have h1 := best_le l m m (.head _)
      rcases List.mem_cons.mp hy with rfl | hy
      · exact h1
      · rcases List.mem_cons.mp hy with rfl | hy
        · have := k2 c
          omega
        · exact best_le l m y (.tail _ hy)
theorem shortest_eq {box p q : List Nat} (hbox : ∀ i, i < 3 → 0 < nth box i) (hp : ∀ i, i < 3 → nth p i ≤ nth box i) {x : Int × List Nat} {l : List (Int × List Nat)} (h : waysM box p q = x :: l) :
    shortest box p q = some (flip2 (bestM x l)) := by
  unfold shortest
  rw [ways_eq hbox hp, h]
  have pw := waysM_rising box p q
  rw [h] at pw
  obtain ⟨p1, p2⟩ := List.pairwise_cons.mp pw
  show some ((l.map flip2).foldl _ (flip2 x)) = _
  rw [best_eq l x p1 p2]
end SF

/-! ## M4 -/
set_option Elab.async false
set_option maxRecDepth 100000
namespace SF
open Sy73

theorem through1_of {A B x y w lo hi : Int} (h : (A ≤ w ∧ w ≤ B) ∨ (B ≤ w ∧ w ≤ A)) (hx : lo ≤ x ∧ x ≤ hi) (hy : lo ≤ y ∧ y ≤ hi) : through1 A B x y w lo hi = true := by
  unfold through1
  dsimp only
  by_cases c : B - A = 0
  · rw [if_pos c]
    simp only [Bool.and_eq_true, decide_eq_true_eq]
    omega
  · rw [if_neg c]
    have key : ∀ r f : Int, 0 < r → 0 ≤ f → f ≤ r → lo * r ≤ x * r + (y - x) * f ∧ x * r + (y - x) * f ≤ hi * r := by
      intro r f hr hf hfr
      have e : x * r + (y - x) * f = x * (r - f) + y * f := by grind
      rw [e]
      have lx : lo * (r - f) ≤ x * (r - f) := Int.mul_le_mul_of_nonneg_right hx.1 (by omega)
      have ly : lo * f ≤ y * f := Int.mul_le_mul_of_nonneg_right hy.1 hf
      have ux : x * (r - f) ≤ hi * (r - f) := Int.mul_le_mul_of_nonneg_right hx.2 (by omega)
      have uy : y * f ≤ hi * f := Int.mul_le_mul_of_nonneg_right hy.2 hf
      have s1 : lo * r = lo * (r - f) + lo * f := by grind
      have s2 : hi * r = hi * (r - f) + hi * f := by grind
      omega
    by_cases n : B - A < 0
    · simp only [if_pos n]
      rw [if_neg (by omega)]
      have := key (-(B - A)) (-(w - A)) (by omega) (by omega) (by omega)
      simp [this.1, this.2]
    · simp only [if_neg n]
      rw [if_neg (by omega)]
      have := key (B - A) (w - A) (by omega) (by omega) (by omega)
      simp [this.1, this.2]

theorem onFace_iff (box p : List Nat) (f : Nat) : onFace box p f = true ↔ (nth p (f / 2) : Int) = lev box f := by
  unfold onFace
  rw [beq_iff_eq, ← level_lev]
  unfold axis
  omega

/-- faces one behind another, over which there is a straight way between any two points of theirs -/
def stepB (f g : Nat) : List Nat := if f = g then [] else if f / 2 = g / 2 then [2 * ((f / 2 + 1) % 3), g] else [g]
theorem stepB_rows : ∀ f, f < 6 → ∀ g, g < 6 → stepB f g ∈ rows 5 [f] := by
  have h : (List.range 6).all (fun f => (List.range 6).all fun g => (rows 5 [f]).contains (stepB f g)) = true := by decide +kernel
  intro f hf g hg
  have := List.all_eq_true.mp (List.all_eq_true.mp h f (List.mem_range.mpr hf)) g (List.mem_range.mpr hg)
  exact List.contains_iff_mem.mp this
theorem stepB_last : ∀ f, f < 6 → ∀ g, g < 6 → (f :: stepB f g).getLast? = some g := by
  have h : (List.range 6).all (fun f => (List.range 6).all fun g => (f :: stepB f g).getLast? == some g) = true := by decide +kernel
  intro f hf g hg
  have := List.all_eq_true.mp (List.all_eq_true.mp h f (List.mem_range.mpr hf)) g (List.mem_range.mpr hg)
  exact beq_iff_eq.mp this

theorem step_way {box p q : List Nat} (hp : ∀ i, i < 3 → nth p i ≤ nth box i) (hq : ∀ i, i < 3 → nth q i ≤ nth box i) {f g : Nat} (hf : f < 6) (hg : g < 6) (pf : onFace box p f = true) (qg : onFace box q g = true) :
    (alongM box p q (f :: stepB f g)).isSome = true := by
  rw [onFace_iff] at pf qg
  have p0 := hp 0 (by omega)
  have p1 := hp 1 (by omega)
  have p2 := hp 2 (by omega)
  have q0 := hq 0 (by omega)
  have q1 := hq 1 (by omega)
  have q2 := hq 2 (by omega)
  have hf' : f = 0 ∨ f = 1 ∨ f = 2 ∨ f = 3 ∨ f = 4 ∨ f = 5 := by omega
  have hg' : g = 0 ∨ g = 1 ∨ g = 2 ∨ g = 3 ∨ g = 4 ∨ g = 5 := by omega
  have all2 : ∀ s : Scl × Scl, (layM box (firstM f) f (stepB f g)).2.all (throughM (spotM (firstM f) p) (spotM (layM box (firstM f) f (stepB f g)).1 q)) = true → (alongM box p q (f :: stepB f g)).isSome = true := by
    intro _ h
    unfold alongM
    dsimp only
    rw [h]
    rfl
  refine all2 (⟨0, 0, 0⟩, ⟨0, 0, 0⟩) ?_
  rcases hf' with rfl | rfl | rfl | rfl | rfl | rfl <;> rcases hg' with rfl | rfl | rfl | rfl | rfl | rfl <;>
    (simp [stepB, layM, firstM, beyondM, edgeM, axCross, throughM_eq, spotM, Scl.place, lev, sideI] at pf qg ⊢ <;>
     (try first
      | exact through1_of (by omega) (by omega) (by omega)
      | exact ⟨through1_of (by omega) (by omega) (by omega), through1_of (by omega) (by omega) (by omega)⟩))

theorem ways_some {box p q : List Nat} (hp : ∀ i, i < 3 → nth p i ≤ nth box i) (hq : ∀ i, i < 3 → nth q i ≤ nth box i) (h1 : facesOf box p ≠ []) (h2 : facesOf box q ≠ []) : waysM box p q ≠ [] := by
  obtain ⟨f, hf⟩ := List.exists_mem_of_ne_nil _ h1
  obtain ⟨g, hg⟩ := List.exists_mem_of_ne_nil _ h2
  have f6 := mem_facesOf hf
  have g6 := mem_facesOf hg
  have of := (List.mem_filter.mp hf).2
  have og := (List.mem_filter.mp hg).2
  have k := step_way hp hq f6 g6 of og
  obtain ⟨d, hd⟩ := Option.isSome_iff_exists.mp k
  have m : (d, f :: stepB f g) ∈ waysM box p q := by
    unfold waysM
    refine List.mem_filterMap.mpr ⟨f :: stepB f g, ?_, by rw [hd]; rfl⟩
    unfold joinM
    refine List.mem_flatMap.mpr ⟨f, hf, List.mem_filter.mpr ⟨?_, ?_⟩⟩
    · rw [rowsBeg5]
      exact List.mem_map.mpr ⟨_, stepB_rows f f6 g g6, rfl⟩
    · rw [stepB_last f f6 g g6]
      exact List.contains_iff_mem.mpr hg
  intro e
  rw [e] at m
  cases m
end SF

/-! ## M5 -/
set_option Elab.async false
set_option maxRecDepth 100000
namespace SF
open Sy73

/-! ### the request: one call behind another -/
abbrev shp := PySy73.shape
def nstep : St → List (List Int) → St × List Int := fun s c => Sy73Neutral.step s (c.headD [])
/-- what is due for the calls from here on -/
def due (s : St) (l : List Int) : List Int := match PyFlat.calls shp l.length l with
  | none => []
  | some cs => PyFlat.told (PyFlat.played nstep s (cs.map PySy73.whole))
/-- from here on there are calls, each within its bounds -/
def Fine (l : List Int) : Prop := ∃ raw, PyFlat.calls shp l.length l = some raw ∧ PyInside.calls PySy73.bound raw = true ∧ (∀ c ∈ raw, (Sy73Neutral.callOf ((PySy73.whole c).headD [])).isSome = true)
def nums (l : List Nat) : List Int := l.map fun (n : Nat) => (n : Int)

inductive Reads : List Int → Call → List Int → Prop where
  | begins (x y z : Nat) (t : List Int) (hx : x < 4294967296) (hy : y < 4294967296) (hz : z < 4294967296) : Reads (0 :: (x : Int) :: (y : Int) :: (z : Int) :: t) (.begins x y z) t
  | spider (x y z : Nat) (t : List Int) (hx : x < 4294967296) (hy : y < 4294967296) (hz : z < 4294967296) : Reads (1 :: (x : Int) :: (y : Int) :: (z : Int) :: t) (.spider x y z) t
  | fly (x y z : Nat) (t : List Int) (hx : x < 4294967296) (hy : y < 4294967296) (hz : z < 4294967296) : Reads (2 :: (x : Int) :: (y : Int) :: (z : Int) :: t) (.fly x y z) t
  | way (t : List Int) : Reads (3 :: t) .way t
  | over (fs : List Nat) (t : List Int) (hn : fs.length ≤ 60) (hb : ∀ f ∈ fs, f < 4294967296) : Reads (4 :: (fs.length : Int) :: (nums fs ++ t)) (.over fs) t
  | many (t : List Int) : Reads (5 :: t) .many t
  | straight (t : List Int) : Reads (6 :: t) .straight t
  | farthest (t : List Int) : Reads (7 :: t) .farthest t
  | within (n : Nat) (t : List Int) (hn : n < 4294967296) : Reads (8 :: (n : Int) :: t) (.within n) t
  | faces (t : List Int) : Reads (9 :: t) .faces t
  | state (t : List Int) : Reads (10 :: t) .state t

theorem row_some {l : List Int} {x t : List Int} (h : PyFlat.row l = some (x, t)) : ∃ n r, l = n :: r ∧ 0 ≤ n ∧ n.toNat ≤ r.length ∧ x = r.take n.toNat ∧ t = r.drop n.toNat := by
  cases l with
  | nil => cases h
  | cons n r =>
    unfold PyFlat.row at h
    dsimp only at h
    by_cases c : 0 ≤ n ∧ n.toNat ≤ r.length
    · rw [if_pos c] at h
      cases h
      exact ⟨n, r, rfl, c.1, c.2, rfl, rfl⟩
    · rw [if_neg c] at h
      cases h
/-- a call's numbers and the rest -/
theorem call_some {p : Int} {r : List Int} {c : List (List Int)} {t : List Int} (h : PyFlat.call shp (p :: r) = some (c, t)) :
    ((p = 0 ∨ p = 1 ∨ p = 2) ∧ ∃ x y z, r = x :: y :: z :: t ∧ c = [[p, x, y, z]]) ∨
    ((p = 3 ∨ p = 5 ∨ p = 6 ∨ p = 7 ∨ p = 9 ∨ p = 10) ∧ r = t ∧ c = [[p]]) ∨
    (p = 8 ∧ ∃ x, r = x :: t ∧ c = [[p, x]]) ∨
    (p = 4 ∧ ∃ n u, r = n :: u ∧ 0 ≤ n ∧ n.toNat ≤ u.length ∧ t = u.drop n.toNat ∧ c = [[p], u.take n.toNat]) := by
  have three : ∀ (h3 : shp p = some (3, 0)), ∃ x y z, r = x :: y :: z :: t ∧ c = [[p, x, y, z]] := by
    intro h3
    unfold PyFlat.call at h
    dsimp only at h
    rw [h3] at h
    dsimp only at h
    by_cases k : r.length < 3
    · rw [if_pos k] at h
      cases h
    · rw [if_neg k] at h
      match r, k with
      | [], k => exact absurd (by decide) k
      | [_], k => exact absurd (by simp) k
      | [_, _], k => exact absurd (by simp) k
      | x :: y :: z :: t', _ =>
        cases h
        exact ⟨x, y, z, rfl, rfl⟩
  have zero : ∀ (h3 : shp p = some (0, 0)), r = t ∧ c = [[p]] := by
    intro h3
    unfold PyFlat.call at h
    dsimp only at h
    rw [h3] at h
    cases h
    exact ⟨rfl, rfl⟩
  by_cases h0 : p = 0
  · subst h0
    exact .inl ⟨.inl rfl, three rfl⟩
  by_cases h1 : p = 1
  · subst h1
    exact .inl ⟨.inr (.inl rfl), three rfl⟩
  by_cases h2 : p = 2
  · subst h2
    exact .inl ⟨.inr (.inr rfl), three rfl⟩
  by_cases h3 : p = 3
  · subst h3
    exact .inr (.inl ⟨.inl rfl, zero rfl⟩)
  by_cases h4 : p = 4
  · subst h4
    refine .inr (.inr (.inr ⟨rfl, ?_⟩))
    unfold PyFlat.call at h
    dsimp only at h
    rw [show shp 4 = some (0, 1) from rfl] at h
    dsimp only at h
    rw [if_neg (Nat.not_lt_zero _), List.drop_zero] at h
    unfold PyFlat.rows at h
    cases e : PyFlat.row r with
    | none =>
      rw [e] at h
      cases h
    | some xt =>
      obtain ⟨x, t'⟩ := xt
      rw [e] at h
      cases h
      obtain ⟨n, u, e1, e2, e3, e4, e5⟩ := row_some e
      exact ⟨n, u, e1, e2, e3, e5, by rw [e4]; rfl⟩
  by_cases h5 : p = 5
  · subst h5
    exact .inr (.inl ⟨.inr (.inl rfl), zero rfl⟩)
  by_cases h6 : p = 6
  · subst h6
    exact .inr (.inl ⟨.inr (.inr (.inl rfl)), zero rfl⟩)
  by_cases h7 : p = 7
  · subst h7
    exact .inr (.inl ⟨.inr (.inr (.inr (.inl rfl))), zero rfl⟩)
  by_cases h8 : p = 8
  · subst h8
    refine .inr (.inr (.inl ⟨rfl, ?_⟩))
    unfold PyFlat.call at h
    dsimp only at h
    rw [show shp 8 = some (1, 0) from rfl] at h
    dsimp only at h
    match r with
    | [] => cases h
    | x :: t' =>
      rw [if_neg (by simp)] at h
      cases h
      exact ⟨x, rfl, rfl⟩
  by_cases h9 : p = 9
  · subst h9
    exact .inr (.inl ⟨.inr (.inr (.inr (.inr (.inl rfl)))), zero rfl⟩)
  by_cases h10 : p = 10
  · subst h10
    exact .inr (.inl ⟨.inr (.inr (.inr (.inr (.inr rfl)))), zero rfl⟩)
  exfalso
  have e : shp p = none := by simp [PySy73.shape, h0, h1, h2, h3, h4, h5, h6, h7, h8, h9, h10]
  unfold PyFlat.call at h
  dsimp only at h
  rw [e] at h
  cases h
theorem call_shorter {p : Int} {r : List Int} {c : List (List Int)} {t : List Int} (h : PyFlat.call shp (p :: r) = some (c, t)) : t.length ≤ r.length := by
  rcases call_some h with ⟨_, x, y, z, rfl, _⟩ | ⟨_, rfl, _⟩ | ⟨_, x, rfl, _⟩ | ⟨_, n, u, rfl, _, _, rfl, _⟩
  · simp only [List.length_cons]
    omega
  · exact Nat.le_refl _
  · simp only [List.length_cons]
    omega
  · simp only [List.length_cons, List.length_drop]
    omega
theorem calls_fuel : ∀ (f : Nat) (l : List Int), l.length ≤ f → PyFlat.calls shp f l = PyFlat.calls shp l.length l := by
  have main : ∀ (n f g : Nat) (l : List Int), l.length ≤ n → l.length ≤ f → l.length ≤ g → PyFlat.calls shp f l = PyFlat.calls shp g l := by
    intro n
    induction n with
    | zero =>
      intro f g l h1 h2 h3
      have : l = [] := List.length_eq_zero_iff.mp (by omega)
      subst this
      cases f <;> cases g <;> rfl
    | succ n ih =>
      intro f g l h1 h2 h3
      cases l with
      | nil => cases f <;> cases g <;> rfl
      | cons p r =>
        simp only [List.length_cons] at h1 h2 h3
        obtain ⟨f, rfl⟩ : ∃ f', f = f' + 1 := ⟨f - 1, by omega⟩
        obtain ⟨g, rfl⟩ : ∃ g', g = g' + 1 := ⟨g - 1, by omega⟩
        unfold PyFlat.calls
        cases e : PyFlat.call shp (p :: r) with
        | none => rfl
        | some ct =>
          obtain ⟨c, t⟩ := ct
          have hl := call_shorter e
          dsimp only
          rw [ih f g t (by omega) (by omega) (by omega)]
  intro f l h
  exact main l.length f l.length l (Nat.le_refl _) h (Nat.le_refl _)
theorem calls_cons {p : Int} {r : List Int} {raw : List (List (List Int))} (h : PyFlat.calls shp (p :: r).length (p :: r) = some raw) :
    ∃ c t raw', PyFlat.call shp (p :: r) = some (c, t) ∧ PyFlat.calls shp t.length t = some raw' ∧ raw = c :: raw' := by
  rw [List.length_cons] at h
  unfold PyFlat.calls at h
  cases e : PyFlat.call shp (p :: r) with
  | none =>
    rw [e] at h
    cases h
  | some ct =>
    obtain ⟨c, t⟩ := ct
    rw [e] at h
    dsimp only at h
    rw [calls_fuel r.length t (call_shorter e)] at h
    cases e2 : PyFlat.calls shp t.length t with
    | none =>
      rw [e2] at h
      cases h
    | some raw' =>
      rw [e2] at h
      cases h
      exact ⟨c, t, raw', rfl, e2, rfl⟩
theorem calls_of {p : Int} {r : List Int} {c : List (List Int)} {t : List Int} {raw : List (List (List Int))} (h : PyFlat.call shp (p :: r) = some (c, t)) (h2 : PyFlat.calls shp t.length t = some raw) :
    PyFlat.calls shp (p :: r).length (p :: r) = some (c :: raw) := by
  rw [List.length_cons]
  unfold PyFlat.calls
  rw [h]
  dsimp only
  rw [calls_fuel r.length t (call_shorter h), h2]
theorem within_nat {z : Int} (h : PyInside.within 0 4294967295 z = true) : ∃ n : Nat, z = (n : Int) ∧ n < 4294967296 := by
  unfold PyInside.within at h
  rw [Bool.and_eq_true, decide_eq_true_eq, decide_eq_true_eq] at h
  exact ⟨z.toNat, by omega, by omega⟩
theorem natIn_nat {n : Nat} (h : n < 4294967296) (l : List Int) : Sy73Neutral.natIn ((n : Int) :: l) = some (n, l) := by
  unfold Sy73Neutral.natIn
  dsimp only
  rw [if_pos ⟨Int.natCast_nonneg n, by omega⟩]
  rfl
theorem many_nat : ∀ (fs : List Nat), (∀ f ∈ fs, f < 4294967296) → Sy73Neutral.many_ Sy73Neutral.natIn fs.length (nums fs) = some (fs, [])
  | [], _ => rfl
  | f :: fs, h => by
    show (Sy73Neutral.natIn ((f : Int) :: nums fs)).bind _ = _
    rw [natIn_nat (h f (.head _))]
    show (Sy73Neutral.many_ Sy73Neutral.natIn fs.length (nums fs)).map _ = _
    rw [many_nat fs fun g hg => h g (.tail _ hg)]
    rfl
theorem some3 {x y z : Nat} (hx : x < 4294967296) (hy : y < 4294967296) (hz : z < 4294967296) : Sy73Neutral.all_ (Sy73Neutral.some_ 3 [(x : Int), (y : Int), (z : Int)]) = some [x, y, z] := by
  have := many_nat [x, y, z] (by
    intro f hf
    simp at hf
    omega)
  show Sy73Neutral.all_ (Sy73Neutral.many_ Sy73Neutral.natIn [x, y, z].length (nums [x, y, z])) = _
  rw [this]
  rfl
theorem nums_take {l : List Int} (h : l.all (PyInside.within 0 4294967295) = true) : ∃ fs : List Nat, l = nums fs ∧ ∀ f ∈ fs, f < 4294967296 := by
  induction l with
  | nil => exact ⟨[], rfl, fun f hf => by cases hf⟩
  | cons a l ih =>
    rw [List.all_cons, Bool.and_eq_true] at h
    obtain ⟨n, e, hn⟩ := within_nat h.1
    obtain ⟨fs, e2, hf⟩ := ih h.2
    refine ⟨n :: fs, by rw [e, e2]; rfl, fun f hf' => ?_⟩
    rcases List.mem_cons.mp hf' with rfl | hf'
    · exact hn
    · exact hf f hf'
theorem cof0 (x y z : Int) : Sy73Neutral.callOf ((PySy73.whole [[0, x, y, z]]).headD []) = (Sy73Neutral.all_ (Sy73Neutral.some_ 3 [x, y, z])).map fun (x : List Nat) => Call.begins (Sy73Neutral.g x 0) (Sy73Neutral.g x 1) (Sy73Neutral.g x 2) := rfl
theorem cof1 (x y z : Int) : Sy73Neutral.callOf ((PySy73.whole [[1, x, y, z]]).headD []) = (Sy73Neutral.all_ (Sy73Neutral.some_ 3 [x, y, z])).map fun (x : List Nat) => Call.spider (Sy73Neutral.g x 0) (Sy73Neutral.g x 1) (Sy73Neutral.g x 2) := rfl
theorem cof2 (x y z : Int) : Sy73Neutral.callOf ((PySy73.whole [[2, x, y, z]]).headD []) = (Sy73Neutral.all_ (Sy73Neutral.some_ 3 [x, y, z])).map fun (x : List Nat) => Call.fly (Sy73Neutral.g x 0) (Sy73Neutral.g x 1) (Sy73Neutral.g x 2) := rfl
theorem cof8 (x : Int) : Sy73Neutral.callOf ((PySy73.whole [[8, x]]).headD []) = (Sy73Neutral.all_ (Sy73Neutral.some_ 1 [x])).map fun (x : List Nat) => Call.within (Sy73Neutral.g x 0) := rfl
theorem cof4 (n : Int) (l : List Int) : Sy73Neutral.callOf (4 :: n :: l) = (Sy73Neutral.all_ (Sy73Neutral.rowIn (n :: l))).map fun (y : List Nat) => Call.over y := rfl
/-- **one call from the front**: which it is, and what is due for all of it -/
theorem due_step {l : List Int} (hf : Fine l) (hne : l ≠ []) : ∃ c t, Reads l c t ∧ Fine t ∧ ∀ s, due s l = (((Sy73Neutral.out (step s c).2).length : Nat) : Int) :: (Sy73Neutral.out (step s c).2 ++ due (step s c).1 t) := by
  obtain ⟨raw, hr, hin, hok⟩ := hf
  cases l with
  | nil => exact absurd rfl hne
  | cons p r =>
    obtain ⟨c, t, raw', hc, ht, rfl⟩ := calls_cons hr
    have hin2 : PyInside.call PySy73.bound c = true ∧ PyInside.calls PySy73.bound raw' = true := by
      unfold PyInside.calls at hin ⊢
      rw [List.all_cons, Bool.and_eq_true] at hin
      exact hin
    have fine : Fine t := ⟨raw', ht, hin2.2, fun c' h => hok c' (.tail _ h)⟩
    have hb := hin2.1
    have dueE : ∀ s (k : Call), Sy73Neutral.callOf ((PySy73.whole c).headD []) = some k → due s (p :: r) = (((Sy73Neutral.out (step s k).2).length : Nat) : Int) :: (Sy73Neutral.out (step s k).2 ++ due (step s k).1 t) := by
      intro s k hk
      unfold due
      rw [hr, ht]
      have e : nstep s (PySy73.whole c) = ((step s k).1, Sy73Neutral.out (step s k).2) := by
        unfold nstep Sy73Neutral.step
        rw [hk]
      show PyFlat.told ((nstep s (PySy73.whole c)).2 :: PyFlat.played nstep (nstep s (PySy73.whole c)).1 (raw'.map PySy73.whole)) = _
      rw [e]
      rfl
    suffices ∃ k, Reads (p :: r) k t ∧ Sy73Neutral.callOf ((PySy73.whole c).headD []) = some k by
      obtain ⟨k, h1, h2⟩ := this
      exact ⟨k, t, h1, fine, fun s => dueE s k h2⟩
    rcases call_some hc with ⟨hp, x, y, z, rfl, rfl⟩ | ⟨hp, rfl, rfl⟩ | ⟨hp, x, rfl, rfl⟩ | ⟨hp, n, u, rfl, hn, hlen, rfl, rfl⟩
    · have hb2 : PyInside.within 0 4294967295 x = true ∧ PyInside.within 0 4294967295 y = true ∧ PyInside.within 0 4294967295 z = true := by
        rcases hp with rfl | rfl | rfl <;>
        · simp only [PyInside.call, PySy73.bound] at hb
          simp [PyInside.each, PyInside.lists] at hb
          exact hb
      obtain ⟨x, rfl, hx⟩ := within_nat hb2.1
      obtain ⟨y, rfl, hy⟩ := within_nat hb2.2.1
      obtain ⟨z, rfl, hz⟩ := within_nat hb2.2.2
      rcases hp with rfl | rfl | rfl
      · refine ⟨.begins x y z, .begins x y z t hx hy hz, ?_⟩
        rw [cof0, some3 hx hy hz]
        rfl
      · refine ⟨.spider x y z, .spider x y z t hx hy hz, ?_⟩
        rw [cof1, some3 hx hy hz]
        rfl
      · refine ⟨.fly x y z, .fly x y z t hx hy hz, ?_⟩
        rw [cof2, some3 hx hy hz]
        rfl
    · rcases hp with rfl | rfl | rfl | rfl | rfl | rfl
      · exact ⟨.way, .way _, rfl⟩
      · exact ⟨.many, .many _, rfl⟩
      · exact ⟨.straight, .straight _, rfl⟩
      · exact ⟨.farthest, .farthest _, rfl⟩
      · exact ⟨.faces, .faces _, rfl⟩
      · exact ⟨.state, .state _, rfl⟩
    · subst hp
      have hb2 : PyInside.within 0 4294967295 x = true := by
        simp only [PyInside.call, PySy73.bound] at hb
        simp [PyInside.each, PyInside.lists] at hb
        exact hb
      obtain ⟨x, rfl, hx⟩ := within_nat hb2
      refine ⟨.within x, .within x t hx, ?_⟩
      have e := many_nat [x] (by
        intro f hf
        simp at hf
        omega)
      have e' : Sy73Neutral.some_ 1 [(x : Int)] = some ([x], []) := e
      rw [cof8, e']
      rfl
    · subst hp
      have hb2 : (u.take n.toNat).length ≤ 60 ∧ (u.take n.toNat).all (PyInside.within 0 4294967295) = true := by
        simp only [PyInside.call, PySy73.bound] at hb
        simp [PyInside.each, PyInside.lists] at hb
        refine ⟨?_, ?_⟩
        · rw [List.length_take]
          omega
        · rw [List.all_eq_true]
          exact hb.2
      obtain ⟨fs, e, hfs⟩ := nums_take hb2.2
      have hl : fs.length = n.toNat := by
        have := congrArg List.length e
        unfold nums at this
        rw [List.length_take, List.length_map] at this
        omega
      have hn' : n = (fs.length : Int) := by omega
      refine ⟨.over fs, ?_, ?_⟩
      · have eu : u = nums fs ++ u.drop n.toNat := by
          rw [← e, List.take_append_drop]
        have R := Reads.over fs (u.drop n.toNat) (by
          have := hb2.1
          rw [e] at this
          unfold nums at this
          rw [List.length_map] at this
          exact this) hfs
        rw [← eu, ← hn'] at R
        exact R
      · rw [e]
        have ew : PySy73.whole [[4], nums fs] = [[4] ++ [((nums fs).length : Int)] ++ nums fs] := rfl
        rw [ew]
        have el : (nums fs).length = fs.length := by
          unfold nums
          rw [List.length_map]
        rw [el]
        have h60 : fs.length ≤ 60 := by
          have := hb2.1
          rw [e, el] at this
          exact this
        have er : Sy73Neutral.rowIn ((fs.length : Int) :: nums fs) = some (fs, []) := by
          unfold Sy73Neutral.rowIn Sy73Neutral.listIn
          dsimp only
          rw [if_pos (by omega)]
          exact many_nat fs hfs
        show Sy73Neutral.callOf (4 :: (fs.length : Int) :: nums fs) = _
        rw [cof4, er]
        rfl
/-- from what the statement asks -/
theorem asked_fine {l : List Int} (h : PySy73.answers_asked l = true) : Fine l ∧ l ≠ [] ∧ (PySy73.answers l).length ≤ 10000000 ∧ PySy73.answers l = due init l := by
  unfold PySy73.answers_asked at h
  cases e : PyFlat.calls shp l.length l with
  | none =>
    have e' : PyFlat.calls PySy73.shape l.length l = none := e
    rw [e'] at h
    cases h
  | some raw =>
    have e' : PyFlat.calls PySy73.shape l.length l = some raw := e
    rw [e'] at h
    simp only [Bool.and_eq_true] at h
    obtain ⟨⟨⟨⟨h1, h2⟩, h3⟩, h4⟩, h5⟩ := h
    refine ⟨⟨raw, e, h3, fun c hc => ?_⟩, ?_, of_decide_eq_true h5, ?_⟩
    · unfold Sy73Neutral.asked at h4
      rw [Bool.and_eq_true] at h4
      have := List.all_eq_true.mp h4.1 ((PySy73.whole c).headD []) (List.mem_map.mpr ⟨PySy73.whole c, List.mem_map.mpr ⟨c, hc, rfl⟩, rfl⟩)
      exact this
    · rintro rfl
      have : PyFlat.calls shp ([] : List Int).length [] = some [] := rfl
      rw [this] at e
      cases e
      cases h1
    · have ed : due init l = PyFlat.told (PyFlat.played nstep init (raw.map PySy73.whole)) := by
        unfold due
        rw [e]
      rw [ed]
      unfold PySy73.answers PySy73.calls
      rw [e']
      rfl
end SF

/-! ## M6 -/
set_option Elab.async false
set_option maxRecDepth 100000
namespace SF
open Sy73
/-! ### rows laid, face by face -/
def layR (box : List Nat) : List Nat → (Scl × Scl) × List Edg
  | [] => (firstM 0, [])
  | f :: t => layM box (firstM f) f t
def lastSc (box row : List Nat) : Scl × Scl := (layR box row).1
def edgesOf (box row : List Nat) : List Edg := (layR box row).2
def fstSc (row : List Nat) : Scl × Scl := firstM (row.headD 0)
def strB (box p q row : List Nat) : Bool := (edgesOf box row).all (throughM (spotM (fstSc row) p) (spotM (lastSc box row) q))
def sqB (box p q row : List Nat) : Int := squareM (spotM (fstSc row) p) (spotM (lastSc box row) q)
theorem along_str {box p q row : List Nat} (h : row ≠ []) : alongM box p q row = if strB box p q row = true then some (sqB box p q row) else none := by
  cases row with
  | nil => exact absurd rfl h
  | cons f t => rfl
theorem layM_snoc (box : List Nat) : ∀ (t : List Nat) (s : Scl × Scl) (f g : Nat), layM box s f (t ++ [g]) = (beyondM box (layM box s f t).1 (t.getLastD f) g, (layM box s f t).2 ++ [edgeM box (layM box s f t).1 g])
  | [], _, _, _ => rfl
  | h :: r, s, f, g => by
    have ih := layM_snoc box r (beyondM box s f h) h g
    show ((layM box (beyondM box s f h) h (r ++ [g])).1, edgeM box s h :: (layM box (beyondM box s f h) h (r ++ [g])).2) = _
    rw [ih, List.getLastD_cons]
    rfl
theorem getLast_D {f x : Nat} {t : List Nat} (h : (f :: t).getLast? = some x) : t.getLastD f = x := by
  rw [List.getLast?_cons] at h
  simpa using h
theorem layR_snoc {box row : List Nat} {g x : Nat} (hx : row.getLast? = some x) : layR box (row ++ [g]) = (beyondM box (lastSc box row) x g, edgesOf box row ++ [edgeM box (lastSc box row) g]) := by
  cases row with
  | nil => cases hx
  | cons f t =>
    show layM box (firstM f) f (t ++ [g]) = _
    rw [layM_snoc, getLast_D hx]
    rfl
theorem lastSc_snoc {box row : List Nat} {g x : Nat} (hx : row.getLast? = some x) : lastSc box (row ++ [g]) = beyondM box (lastSc box row) x g := by
  unfold lastSc
  rw [layR_snoc hx]
  rfl
theorem edges_snoc {box row : List Nat} {g x : Nat} (hx : row.getLast? = some x) : edgesOf box (row ++ [g]) = edgesOf box row ++ [edgeM box (lastSc box row) g] := by
  show (layR box (row ++ [g])).2 = _
  rw [layR_snoc hx]
theorem fst_snoc {row : List Nat} {g : Nat} (h : row ≠ []) : fstSc (row ++ [g]) = fstSc row := by
  cases row with
  | nil => exact absurd rfl h
  | cons f t => rfl
/-- a row whose faces are beside one another -/
def RowOk (row : List Nat) : Prop := ∃ f t, row = f :: t ∧ f < 6 ∧ linkedB f t = true
theorem RowOk.ne {row : List Nat} (h : RowOk row) : row ≠ [] := by
  obtain ⟨f, t, rfl, _⟩ := h
  exact List.cons_ne_nil _ _
theorem linked_snoc : ∀ (t : List Nat) (f g : Nat), linkedB f (t ++ [g]) = (linkedB f t && (decide (g < 6) && (t.getLastD f / 2 != g / 2)))
  | [], f, g => by
    simp [linkedB]
  | h :: r, f, g => by
    have ih := linked_snoc r h g
    simp only [List.cons_append, linkedB, ih, List.getLastD_cons, Bool.and_assoc]
theorem rowOk_snoc {row : List Nat} {g : Nat} (h : RowOk row) (hg : g < 6) (c : canM row g = true) : RowOk (row ++ [g]) := by
  obtain ⟨f, t, rfl, hf, hl⟩ := h
  refine ⟨f, t ++ [g], rfl, hf, ?_⟩
  rw [linked_snoc, hl]
  unfold canM at c
  rw [Bool.and_eq_true] at c
  have c2 := c.2
  rw [List.getLast?_cons] at c2
  have c3 : beside g (t.getLastD f) = true := by simpa using c2
  unfold beside axis at c3
  simp only [bne_iff_ne] at c3
  simp only [Bool.true_and, Bool.and_eq_true, decide_eq_true_eq, bne_iff_ne]
  exact ⟨hg, fun z => c3 z.symm⟩
theorem rowOk_one {f : Nat} (h : f < 6) : RowOk [f] := ⟨f, [], rfl, h, rfl⟩
theorem rowOk_last {row : List Nat} (h : RowOk row) : ∃ x, row.getLast? = some x ∧ x < 6 := by
  obtain ⟨f, t, rfl, hf, hl⟩ := h
  refine ⟨_, List.getLast?_cons, ?_⟩
  exact linked_last hf hl _ List.getLast?_cons
theorem rowOk_joinM {fs ls r : List Nat} (h6 : ∀ f ∈ fs, f < 6) (h : r ∈ joinM fs ls) : RowOk r := by
  unfold joinM at h
  obtain ⟨f, hf, hr⟩ := List.mem_flatMap.mp h
  have hr := (List.mem_filter.mp hr).1
  rw [rowsBeg5] at hr
  obtain ⟨t, rfl, ht⟩ := mem_rowsFrom hr
  exact ⟨f, t, rfl, h6 f hf, linked6 f (h6 f hf) t ht⟩
/-! ### how many rows -/
theorem beg_len : ∀ (n : Nat) (row : List Nat), (rowsBegM n row).length ≤ 7 ^ n
  | 0, _ => Nat.le_refl _
  | n + 1, row => by
    have ih := beg_len n
    unfold rowsBegM
    rw [List.length_cons, List.length_flatMap]
    have k : ∀ l : List Nat, (l.map fun f => (rowsBegM n (row ++ [f])).length).sum ≤ l.length * 7 ^ n := by
      intro l
      induction l with
      | nil => simp
      | cons a l ihl =>
        rw [List.map_cons, List.sum_cons, List.length_cons, Nat.succ_mul]
        have := ih (row ++ [a])
        omega
    have h1 := k ((List.range 6).filter (canM row))
    have h2 := List.length_filter_le (canM row) (List.range 6)
    rw [List.length_range] at h2
    have h3 : ((List.range 6).filter (canM row)).length * 7 ^ n ≤ 6 * 7 ^ n := Nat.mul_le_mul_right _ h2
    have h4 : 1 ≤ 7 ^ n := Nat.one_le_pow _ _ (by decide)
    rw [Nat.pow_succ]
    omega
/-- .. behind the faces below i -/
def upRows (n : Nat) (row : List Nat) (i : Nat) : List (List Nat) := row :: ((List.range i).filter (canM row)).flatMap fun f => rowsBegM (n - 1) (row ++ [f])
theorem up_zero (n : Nat) (row : List Nat) : upRows n row 0 = [row] := rfl
theorem up_end {n : Nat} {row : List Nat} (h : enoughB n row = true) : upRows n row 6 = rowsBegM n row := by
  cases n with
  | zero =>
    have e : (List.range 6).filter (canM row) = [] := by
      rw [List.filter_eq_nil_iff]
      intro f hf c
      have := List.all_eq_true.mp h f hf
      rw [c] at this
      cases this
    unfold upRows
    rw [e]
    rfl
  | succ n => rfl
theorem range_succ_filter (p : Nat → Bool) (i : Nat) : (List.range (i + 1)).filter p = (List.range i).filter p ++ (if p i = true then [i] else []) := by
  rw [List.range_succ, List.filter_append]
  by_cases h : p i = true
  · rw [if_pos h, List.filter_cons_of_pos h]
    rfl
  · rw [if_neg h, List.filter_cons_of_neg h]
    rfl
theorem up_no {n i : Nat} {row : List Nat} (h : ¬ canM row i = true) : upRows n row (i + 1) = upRows n row i := by
  unfold upRows
  rw [range_succ_filter, if_neg h, List.append_nil]
theorem up_yes {n i : Nat} {row : List Nat} (h : canM row i = true) : upRows n row (i + 1) = upRows n row i ++ rowsBegM (n - 1) (row ++ [i]) := by
  unfold upRows
  rw [range_succ_filter, if_pos h, List.flatMap_append]
  simp
theorem enough_next {n i : Nat} {row : List Nat} (h : enoughB n row = true) (hi : i < 6) (c : canM row i = true) : 0 < n ∧ enoughB (n - 1) (row ++ [i]) = true := by
  cases n with
  | zero =>
    have := List.all_eq_true.mp h i (List.mem_range.mpr hi)
    rw [c] at this
    cases this
  | succ n => exact ⟨Nat.succ_pos _, List.all_eq_true.mp h i (List.mem_filter.mpr ⟨List.mem_range.mpr hi, c⟩)⟩
theorem up_len {n i : Nat} {row : List Nat} (hn : n ≤ 5) (hi : i ≤ 6) : (upRows n row i).length ≤ 100000 := by
  unfold upRows
  rw [List.length_cons, List.length_flatMap]
  have k : ∀ l : List Nat, (l.map fun f => (rowsBegM (n - 1) (row ++ [f])).length).sum ≤ l.length * 7 ^ 4 := by
    intro l
    induction l with
    | nil => simp
    | cons a l ihl =>
      rw [List.map_cons, List.sum_cons, List.length_cons, Nat.succ_mul]
      have h1 := beg_len (n - 1) (row ++ [a])
      have h2 : 7 ^ (n - 1) ≤ 7 ^ 4 := Nat.pow_le_pow_right (by decide) (by omega)
      omega
  have h1 := k ((List.range i).filter (canM row))
  have h2 := List.length_filter_le (canM row) (List.range i)
  rw [List.length_range] at h2
  have h3 : ((List.range i).filter (canM row)).length * 7 ^ 4 ≤ 6 * 7 ^ 4 := Nat.mul_le_mul_right _ (by omega)
  omega
/-- all rows that begin with one of the faces -/
def allFrom (fs : List Nat) : List (List Nat) := fs.flatMap fun f => rowsBegM 5 [f]
def lastIn (ls : List Nat) (r : List Nat) : Bool := (r.getLast?).any fun x => ls.contains x
theorem join_all (fs ls : List Nat) : joinM fs ls = (allFrom fs).filter (lastIn ls) := by
  unfold joinM allFrom
  rw [List.filter_flatMap]
  rfl
theorem all_len : ∀ (l : List Nat), (allFrom l).length ≤ l.length * 7 ^ 5
  | [] => by simp [allFrom]
  | a :: l => by
    have ih := all_len l
    unfold allFrom at ih ⊢
    rw [List.flatMap_cons, List.length_append, List.length_cons, Nat.succ_mul]
    have h1 := beg_len 5 [a]
    omega
theorem rowOk_all {fs r : List Nat} (h6 : ∀ f ∈ fs, f < 6) (h : r ∈ allFrom fs) : RowOk r := by
  unfold allFrom at h
  obtain ⟨f, hf, hr⟩ := List.mem_flatMap.mp h
  rw [rowsBeg5] at hr
  obtain ⟨t, rfl, ht⟩ := mem_rowsFrom hr
  exact ⟨f, t, rfl, h6 f hf, linked6 f (h6 f hf) t ht⟩
theorem len6 : ∀ f, f < 6 → ∀ r ∈ rows 5 [f], r.length ≤ 5 := by
  have h : (List.range 6).all (fun f => (rows 5 [f]).all (fun r => decide (r.length ≤ 5))) = true := by decide +kernel
  intro f hf r hr
  exact of_decide_eq_true (List.all_eq_true.mp (List.all_eq_true.mp h f (List.mem_range.mpr hf)) r hr)
theorem len_all {fs r : List Nat} (h6 : ∀ f ∈ fs, f < 6) (h : r ∈ allFrom fs) : r.length ≤ 6 := by
  unfold allFrom at h
  obtain ⟨f, hf, hr⟩ := List.mem_flatMap.mp h
  rw [rowsBeg5] at hr
  obtain ⟨t, rfl, ht⟩ := mem_rowsFrom hr
  have := len6 f (h6 f hf) t ht
  rw [List.length_cons]
  omega
/-! ### the least -/
def omin (a b : Option Int) : Option Int := match b with
  | none => a
  | some y => match a with
    | none => some y
    | some x => if y < x then some y else some x
def minM (l : List (Option Int)) : Option Int := l.foldl omin none
def MinOf (acc : Option Int) (l : List (Option Int)) : Option Int → Prop
  | none => acc = none ∧ ∀ x ∈ l, x = none
  | some m => (acc = some m ∨ some m ∈ l) ∧ (∀ d, acc = some d → m ≤ d) ∧ ∀ d, some d ∈ l → m ≤ d
theorem omin_fold : ∀ (l : List (Option Int)) (acc : Option Int), MinOf acc l (l.foldl omin acc)
  | [], none => ⟨rfl, fun x hx => by cases hx⟩
  | [], some a => ⟨.inl rfl, fun d h => by cases h; exact Int.le_refl _, fun d h => by cases h⟩
  | b :: l, acc => by
    have ih := omin_fold l (omin acc b)
    rw [List.foldl_cons]
    cases e : l.foldl omin (omin acc b) with
    | none =>
      rw [e] at ih
      obtain ⟨h1, h2⟩ := ih
      cases b with
      | none => exact ⟨h1, fun x hx => (List.mem_cons.mp hx).elim (fun q => q) (h2 x)⟩
      | some y =>
        cases acc with
        | none => cases h1
        | some x =>
          unfold omin at h1
          dsimp only at h1
          split at h1 <;> cases h1
    | some m =>
      rw [e] at ih
      obtain ⟨h1, h2, h3⟩ := ih
      cases b with
      | none =>
        refine ⟨h1.elim .inl (fun q => .inr (.tail _ q)), h2, fun d hd => ?_⟩
        rcases List.mem_cons.mp hd with hd | hd
        · cases hd
        · exact h3 d hd
      | some y =>
        cases acc with
        | none =>
          refine ⟨.inr ?_, fun d hd => by (cases hd), fun d hd => ?_⟩
          · rcases h1 with h1 | h1
            · rw [← h1]
              exact .head _
            · exact .tail _ h1
          · rcases List.mem_cons.mp hd with hd | hd
            · cases hd
              exact h2 y rfl
            · exact h3 d hd
        | some x =>
          have eo : omin (some x) (some y) = if y < x then some y else some x := rfl
          rw [eo] at h1 h2
          by_cases c : y < x
          · rw [if_pos c] at h1 h2
            refine ⟨.inr ?_, fun d hd => ?_, fun d hd => ?_⟩
            · rcases h1 with h1 | h1
              · rw [← h1]
                exact .head _
              · exact .tail _ h1
            · cases hd
              have := h2 y rfl
              omega
            · rcases List.mem_cons.mp hd with hd | hd
              · cases hd
                exact h2 y rfl
              · exact h3 d hd
          · rw [if_neg c] at h1 h2
            refine ⟨h1.elim .inl (fun q => .inr (.tail _ q)), h2, fun d hd => ?_⟩
            rcases List.mem_cons.mp hd with hd | hd
            · cases hd
              have := h2 x rfl
              omega
            · exact h3 d hd
theorem mem_waysM {box p q : List Nat} {d : Int} {r : List Nat} : (d, r) ∈ waysM box p q ↔ r ∈ joinM (facesOf box p) (facesOf box q) ∧ alongM box p q r = some d := by
  unfold waysM
  rw [List.mem_filterMap]
  constructor
  · rintro ⟨r', h1, h2⟩
    cases e : alongM box p q r' with
    | none =>
      rw [e] at h2
      cases h2
    | some d' =>
      rw [e] at h2
      cases h2
      exact ⟨h1, e⟩
  · rintro ⟨h1, h2⟩
    exact ⟨r, h1, by rw [h2]; rfl⟩
structure Pts (box p : List Nat) : Prop where
  le : ∀ i, i < 3 → nth p i ≤ nth box i
  on : facesOf box p ≠ []
theorem dist_best {box p q : List Nat} (hbox : ∀ i, i < 3 → 0 < nth box i) (hp : Pts box p) (hq : Pts box q) : ∃ x l, waysM box p q = x :: l ∧ dist box p q = (bestM x l).1 ∧ shortest box p q = some (flip2 (bestM x l)) := by
  cases e : waysM box p q with
  | nil => exact absurd e (ways_some hp.le hq.le hp.on hq.on)
  | cons x l =>
    have h := shortest_eq hbox hp.le e
    refine ⟨x, l, rfl, ?_, h⟩
    unfold dist
    rw [h]
    rfl
theorem dist_is {box p q : List Nat} (hbox : ∀ i, i < 3 → 0 < nth box i) (hp : Pts box p) (hq : Pts box q) {m : Int} (h1 : ∃ r, (m, r) ∈ waysM box p q) (h2 : ∀ x ∈ waysM box p q, m ≤ x.1) : m = dist box p q := by
  obtain ⟨x, l, e, ed, _⟩ := dist_best hbox hp hq
  rw [ed]
  rw [e] at h1 h2
  obtain ⟨r, hr⟩ := h1
  have a := best_le l x _ hr
  have b := h2 _ (best_mem l x)
  dsimp only at a
  omega
theorem dist_eq {box p q : List Nat} (hbox : ∀ i, i < 3 → 0 < nth box i) (hp : Pts box p) (hq : Pts box q) : minM ((joinM (facesOf box p) (facesOf box q)).map (alongM box p q)) = some (dist box p q) := by
  have h := omin_fold ((joinM (facesOf box p) (facesOf box q)).map (alongM box p q)) none
  show ((joinM (facesOf box p) (facesOf box q)).map (alongM box p q)).foldl omin none = _
  cases e : ((joinM (facesOf box p) (facesOf box q)).map (alongM box p q)).foldl omin none with
  | none =>
    rw [e] at h
    obtain ⟨x, l, ew, _⟩ := dist_best hbox hp hq
    obtain ⟨d, r⟩ := x
    have hm : (d, r) ∈ waysM box p q := by
      rw [ew]
      exact .head _
    obtain ⟨h1, h2⟩ := mem_waysM.mp hm
    have := h.2 _ (List.mem_map.mpr ⟨r, h1, rfl⟩)
    rw [h2] at this
    cases this
  | some m =>
    rw [e] at h
    obtain ⟨h1, _, h3⟩ := h
    refine congrArg some (dist_is hbox hp hq ?_ fun x hx => ?_)
    · rcases h1 with h1 | h1
      · cases h1
      · obtain ⟨r, hr, e2⟩ := List.mem_map.mp h1
        exact ⟨r, mem_waysM.mpr ⟨hr, e2⟩⟩
    · obtain ⟨d, r⟩ := x
      obtain ⟨a, b⟩ := mem_waysM.mp hx
      exact h3 d (List.mem_map.mpr ⟨r, a, b⟩)
theorem sq_nonneg (a b : Int × Int) : 0 ≤ squareM a b := by
  have k : ∀ x : Int, 0 ≤ x ^ 2 := fun x => by
    have e : x ^ 2 = x * x := by
      rw [Int.pow_succ, Int.pow_succ, Int.pow_zero, Int.one_mul]
    rw [e, ← Int.natAbs_mul_self]
    exact Int.natCast_nonneg _
  exact Int.add_nonneg (k _) (k _)
theorem along_nonneg {box p q r : List Nat} {d : Int} (h : alongM box p q r = some d) : 0 ≤ d := by
  cases r with
  | nil => cases h
  | cons f t =>
    rw [along_str (List.cons_ne_nil f t)] at h
    split at h
    · cases h
      exact sq_nonneg _ _
    · cases h
theorem dist_nonneg {box p q : List Nat} (hbox : ∀ i, i < 3 → 0 < nth box i) (hp : Pts box p) (hq : Pts box q) : 0 ≤ dist box p q := by
  obtain ⟨x, l, e, ed, _⟩ := dist_best hbox hp hq
  rw [ed]
  have := best_mem l x
  rw [← e] at this
  rcases hb : bestM x l with ⟨d, r⟩
  rw [hb] at this
  exact along_nonneg (mem_waysM.mp this).2
/-! ### many -/
theorem ways_len {box p q : List Nat} (hbox : ∀ i, i < 3 → 0 < nth box i) (hp : Pts box p) : (ways box p q).length = (waysM box p q).length := by
  rw [ways_eq hbox hp.le, List.length_map]
theorem ways_count {box p q : List Nat} (hbox : ∀ i, i < 3 → 0 < nth box i) (hp : Pts box p) (d : Int) : ((ways box p q).filter fun (x : List Nat × Int) => x.2 == d).length = ((waysM box p q).map (·.1)).count d := by
  rw [ways_eq hbox hp.le, ← List.countP_eq_length_filter, List.countP_map, List.count_eq_countP, List.countP_map]
  rfl
/-! ### the farthest -/
def FarOk (f : List Nat → Int) (pre : List (List Nat)) (m : List Nat × Int × Nat) : Prop :=
  (pre = [] ∧ m.2.1 = -1 ∧ m.2.2 = 0) ∨ ((∀ x ∈ pre, f x ≤ m.2.1) ∧ (pre.filter fun x => decide (f x = m.2.1)).head? = some m.1 ∧ (pre.filter fun x => decide (f x = m.2.1)).length = m.2.2)
theorem far_fold (f : List Nat → Int) : ∀ (l pre : List (List Nat)) (m : List Nat × Int × Nat), (∀ x ∈ l, 0 ≤ f x) → FarOk f pre m →
    FarOk f (pre ++ l) (l.foldl (fun (m : List Nat × Int × Nat) (q : List Nat) => let d := f q; if m.2.1 < d then (q, d, 1) else if d = m.2.1 then (m.1, d, m.2.2 + 1) else m) m)
  | [], pre, m, _, h => by
    rw [List.append_nil]
    exact h
  | q :: l, pre, m, hn, h => by
    have e : pre ++ q :: l = (pre ++ [q]) ++ l := by simp
    rw [e, List.foldl_cons]
    refine far_fold f l (pre ++ [q]) _ (fun x hx => hn x (.tail _ hx)) ?_
    have h0 := hn q (.head _)
    dsimp only
    by_cases c : m.2.1 < f q
    · rw [if_pos c]
      refine .inr ?_
      have hle : ∀ x ∈ pre, f x < f q := by
        intro x hx
        rcases h with ⟨rfl, _⟩ | ⟨h1, _⟩
        · cases hx
        · have := h1 x hx
          omega
      have ef : (pre.filter fun x => decide (f x = f q)) = [] := by
        rw [List.filter_eq_nil_iff]
        intro x hx z
        have := hle x hx
        have := of_decide_eq_true z
        omega
      have eg : ((pre ++ [q]).filter fun x => decide (f x = f q)) = [q] := by
        rw [List.filter_append, ef]
        simp
      refine ⟨fun x hx => ?_, ?_, ?_⟩
      · rcases List.mem_append.mp hx with hx | hx
        · exact Int.le_of_lt (hle x hx)
        · rw [List.mem_singleton.mp hx]
          exact Int.le_refl _
      · show ((pre ++ [q]).filter fun x => decide (f x = f q)).head? = some q
        rw [eg]
        rfl
      · show ((pre ++ [q]).filter fun x => decide (f x = f q)).length = 1
        rw [eg]
        rfl
    · rw [if_neg c]
      rcases h with ⟨rfl, h1, _⟩ | ⟨h1, h2, h3⟩
      · exact absurd (show m.2.1 < f q by omega) c
      · by_cases c2 : f q = m.2.1
        · rw [if_pos c2]
          refine .inr ⟨fun x hx => ?_, ?_, ?_⟩
          · show f x ≤ f q
            rcases List.mem_append.mp hx with hx | hx
            · rw [c2]
              exact h1 x hx
            · rw [List.mem_singleton.mp hx]
              exact Int.le_refl _
          · show ((pre ++ [q]).filter fun x => decide (f x = f q)).head? = some m.1
            rw [c2, List.filter_append, List.head?_append, h2]
            rfl
          · show ((pre ++ [q]).filter fun x => decide (f x = f q)).length = m.2.2 + 1
            rw [c2, List.filter_append, List.length_append, h3]
            simp [c2]
        · rw [if_neg c2]
          refine .inr ⟨fun x hx => ?_, ?_, ?_⟩
          · rcases List.mem_append.mp hx with hx | hx
            · exact h1 x hx
            · rw [List.mem_singleton.mp hx]
              omega
          · rw [List.filter_append, List.head?_append, h2]
            rfl
          · rw [List.filter_append, List.length_append, h3]
            simp [c2]
/-- .. told by the greatest -/
theorem far_is {f : List Nat → Int} {l : List (List Nat)} (hn : ∀ x ∈ l, 0 ≤ f x) (hne : l ≠ []) {g : Int} (h1 : ∃ x ∈ l, f x = g) (h2 : ∀ x ∈ l, f x ≤ g) :
    ∃ a r, (l.filter fun x => decide (f x = g)) = a :: r ∧ l.foldl (fun (m : List Nat × Int × Nat) (q : List Nat) => let d := f q; if m.2.1 < d then (q, d, 1) else if d = m.2.1 then (m.1, d, m.2.2 + 1) else m) ([0, 0, 0], -1, 0) = (a, g, r.length + 1) := by
  have h := far_fold f l [] ([0, 0, 0], -1, 0) hn (.inl ⟨rfl, rfl, rfl⟩)
  rw [List.nil_append] at h
  rcases hm : l.foldl (fun (m : List Nat × Int × Nat) (q : List Nat) => let d := f q; if m.2.1 < d then (q, d, 1) else if d = m.2.1 then (m.1, d, m.2.2 + 1) else m) ([0, 0, 0], -1, 0) with ⟨q, d, n⟩
  rw [hm] at h
  rcases h with ⟨e, _⟩ | ⟨a1, a2, a3⟩
  · exact absurd e hne
  · dsimp only at a1 a2 a3
    have ed : d = g := by
      obtain ⟨x, hx, ex⟩ := h1
      have b1 := a1 x hx
      have hq : q ∈ l.filter fun x => decide (f x = d) := List.mem_of_head? a2
      have hq2 := List.mem_filter.mp hq
      have b2 := h2 q hq2.1
      have b3 := of_decide_eq_true hq2.2
      omega
    subst ed
    cases el : (l.filter fun x => decide (f x = d)) with
    | nil =>
      rw [el] at a2
      cases a2
    | cons a r =>
      rw [el] at a2 a3
      have ea : a = q := Option.some.inj a2
      exact ⟨a, r, rfl, by rw [← a3, ea]; rfl⟩
end SF

/-! ## W0 -/
set_option Elab.async false
set_option maxRecDepth 100000
set_option maxHeartbeats 2000000
namespace SF
open PySem PySem.Spec PyProof.Rows L2
abbrev Frg := PySem.W.Frag
/-- the i-th statement of the program -/
def top (i : Nat) : Stmt := PySem.Challenge.pw_spiderfly_s01_answers.main.body.getD i (.Pass ⟨0, 0, 0, 0⟩)
/-- the j-th statement of a class's body -/
def inC (s : Stmt) (j : Nat) : Stmt := (C8.clsBody s).getD j (.Pass ⟨0, 0, 0, 0⟩)
structure DefOk (K : Frg) (mg : Str → Option Value) (x : Str) (st : Stmt) (ps : List Str) : Prop where
  ex : ∃ f fd, C8.Def K mg x st f fd ∧ Binds K fd ps []
structure MethOk (K : Frg) (C : Addr) (m qual : Str) (st : Stmt) (ps : List Str) : Prop where
  ex : ∃ f fd, Meth K C m f ∧ C8.Fun K m qual st f fd ∧ Binds K fd ps []
structure InitOk (K : Frg) (mg : Str → Option Value) (x : Str) (C : Addr) (qual : Str) (st : Stmt) (ps : List Str) : Prop where
  ex : ∃ f fd, Mk K C f ∧ C8.Fun K "__init__" qual st f fd ∧ Binds K fd ps []
  mgc : mg x = some (.ref C)
/-- what the top has written -/
structure Tx (K : Frg) (mg : Str → Option Value) (cS cE cL cB : Addr) : Prop where
  clS : Cls K cS
  clE : Cls K cE
  clL : Cls K cL
  clB : Cls K cB
  aS : NoAttr K cS "axis" ∧ NoAttr K cS "start" ∧ NoAttr K cS "sign"
  aE : NoAttr K cE "across" ∧ NoAttr K cE "where" ∧ NoAttr K cE "low" ∧ NoAttr K cE "high"
  aL : NoAttr K cL "row" ∧ NoAttr K cL "first" ∧ NoAttr K cL "last" ∧ NoAttr K cL "edges"
  aB : NoAttr K cB "lengths" ∧ NoAttr K cB "spider" ∧ NoAttr K cB "fly"
  g_AXES : ∃ t, mg "AXES" = some (.int 3 t)
  g_FACES : ∃ t, mg "FACES" = some (.int 6 t)
  g_LONGEST : ∃ t, mg "LONGEST" = some (.int 40 t)
  g_LONGEST_SEARCHED : ∃ t, mg "LONGEST_SEARCHED" = some (.int 4 t)
  g_BEGINS : ∃ t, mg "BEGINS" = some (.int 0 t)
  g_SPIDER : ∃ t, mg "SPIDER" = some (.int 1 t)
  g_FLY : ∃ t, mg "FLY" = some (.int 2 t)
  g_OVER : ∃ t, mg "OVER" = some (.int 4 t)
  g_WITHIN : ∃ t, mg "WITHIN" = some (.int 8 t)
  n_range : mg "range" = none
  n_len : mg "len" = none
  n_min : mg "min" = none
  n_max : mg "max" = none
  n_list : mg "list" = none
  n_sum : mg "sum" = none
  n_zip : mg "zip" = none
theorem pe_globI {X : Cx} {x : Str} {n : Int} {pos : Pos} (hg : Gl X x) (h : ∃ t, X.mg x = some (.int n t)) (hd : (x == ("__debug__" : Str)) = false := by decide) : PE X (.Name x pos) (tC (.int n)) := by
  obtain ⟨t, h⟩ := h
  exact pe_glob hg h ⟨t, rfl⟩ hd
theorem ix_listK (K : Frg) {X : Cx} (h : X.K = K := by rfl) : IxR X (rIxL K) := h ▸ ix_list
theorem ix_tupK (K : Frg) {X : Cx} (h : X.K = K := by rfl) : IxR X (rIxT K) := h ▸ ix_tup
theorem sl_listK (K : Frg) {X : Cx} (h : X.K = K := by rfl) : SlR X (rSlL K) := h ▸ sl_list
theorem op_in_seqK (K : Frg) {X : Cx} (h : X.K = K := by rfl) : OpR X (compareOp .In) (rIn K false) := h ▸ op_in_seq
theorem op_notIn_seqK (K : Frg) {X : Cx} (h : X.K = K := by rfl) : OpR X (compareOp .NotIn) (rIn K true) := h ▸ op_notIn_seq
theorem call_len_seqK (K : Frg) {X : Cx} (h : X.K = K := by rfl) : CallR X (.builtin "len") (fun xs H Q => ∃ p ys, xs = [.ref p] ∧ (SqL K H p ys ∨ SqT K H p ys) ∧ Q (.int ys.length) H) := h ▸ call_len_seq
theorem pe_fldK (K : Frg) {X : Cx} {e : Expr} {ta : TE} {f : Str} {pos : Pos} (he : PE X e ta) (hb : attributeBase e f X.env (eval e X.env) = eval e X.env) (h : X.K = K := by rfl) : PE X (.Attribute e f pos) (tFld K ta f) := h ▸ pe_fld he hb
def nv (n : Nat) : V := .int (n : Int)
theorem nv_map (l : List Nat) : l.map nv = (l.map fun (n : Nat) => (n : Int)).map V.int := by
  rw [List.map_map]
  rfl
theorem at_nv {l : List Nat} {i : Nat} (h : i < l.length) : atI (l.map nv) (i : Int) = some (nv (l.getD i 0)) := by
  refine atI_nat ?_
  rw [List.getElem?_map, List.getElem?_eq_getElem h]
  show some (nv l[i]) = _
  rw [List.getD_eq_getElem?_getD, List.getElem?_eq_getElem h]
  rfl
theorem lk_here {k : Str} {v : V} {r : List (Str × V)} : List.lookup k ((k, v) :: r) = some v := by
  have e : (k == k) = true := beq_self_eq_true k
  simp only [List.lookup, e]
theorem lk_past {k g : Str} {v : V} {r : List (Str × V)} (h : (k == g) = false) : List.lookup k ((g, v) :: r) = List.lookup k r := by
  simp only [List.lookup, h]
theorem put_here {f : Str} {v x : V} {r : List (Str × V)} : putF f v ((f, x) :: r) = (f, v) :: r := if_pos rfl
theorem put_past {f g : Str} {v x : V} {r : List (Str × V)} (h : ¬ g = f) : putF f v ((g, x) :: r) = (g, x) :: putF f v r := if_neg h
theorem pg_tupK (K : Frg) {X : Cx} {es : List Expr} {k : Nat} {t : TGs} {n : Nat} {pos : Pos} (hc : X.calm = true) (h : PGs X es t) (e : X.K = K := by rfl)
    (hn : (assignEach es X.env).length = n := by rfl) (hst : (assignEach es X.env).findIdx? (·.1) = none := by rfl) : PG X (.Tuple es k pos) (gTup K n t) := e ▸ pg_tup hc h hn hst
theorem pe_mk0 {X : Cx} {k j : Nat} {C : Addr} {x : Str} {sp : Sp} {dvs : List V} {p pos : Pos} (c : C8.Mak X.prog X.w X.K X.mg X.base k x C sp dvs) (hr : Room j X.A) (hk : k + 1 ≤ j) (hg : Gl X x) (hdb : (x == ("__debug__" : Str)) = false := by decide) :
    PE X (.Call (.Name x p) [] [] pos) (tMake C sp dvs C8.E0 tNil) := by
  obtain ⟨f, fd, ps, ds, M, F, hm, b, d⟩ := c.ex
  exact pe_make0 M F (hr.mono hk) hg hm b d C8.pass0 hdb
end SF

/-! ## W1 -/
set_option Elab.async false
set_option maxRecDepth 100000
set_option maxHeartbeats 2000000
namespace SF
open PySem PySem.Spec PyProof.Rows L2
/-! ### the promises of the small defs -/
def spAxis : Sp := fun vs H Q _ => ∃ f : Nat, vs = [nv f] ∧ Q (nv (f / 2)) H
def spSide : Sp := fun vs H Q _ => ∃ f : Nat, vs = [nv f] ∧ Q (.int (sideI f)) H
def spHeight (K : Frg) : Sp := fun vs H Q _ => ∃ (a : Addr) (box : List Nat) (f : Nat), vs = [.ref a, nv f] ∧ SqL K H a (box.map nv) ∧ f / 2 < box.length ∧ Q (.int (lev box f)) H
abbrev s_axis_of : Stmt := top 6
abbrev N_axis_of : List Str := ["face"]
theorem sc_axis_of : FnScope N_axis_of ["face"] (C8.fnScope s_axis_of) := C8.fnScope_by (by decide +kernel)
abbrev s_side_of : Stmt := top 7
abbrev N_side_of : List Str := ["face"]
theorem sc_side_of : FnScope N_side_of ["face"] (C8.fnScope s_side_of) := C8.fnScope_by (by decide +kernel)
abbrev s_height_of : Stmt := top 8
abbrev N_height_of : List Str := ["lengths", "face"]
theorem sc_height_of : FnScope N_height_of ["lengths", "face"] (C8.fnScope s_height_of) := C8.fnScope_by (by decide +kernel)
abbrev s_faces_at : Stmt := top 9
abbrev N_faces_at : List Str := ["lengths", "point", "axis", "face"]
theorem sc_faces_at : FnScope N_faces_at ["lengths", "point"] (C8.fnScope s_faces_at) := C8.fnScope_by (by decide +kernel)
abbrev s_can_follow : Stmt := top 11
abbrev N_can_follow : List Str := ["row", "face"]
theorem sc_can_follow : FnScope N_can_follow ["row", "face"] (C8.fnScope s_can_follow) := C8.fnScope_by (by decide +kernel)
section
variable {P : Program} {w : World} {K : Frg} {mg : Str → Option Value} {base : Heap} {cS cE cL cB : Addr}
theorem c_axis_of (D : DefOk K mg "axis_of" s_axis_of ["face"]) : C8.Cal P w K mg base 1 "axis_of" spAxis [] := by
  obtain ⟨f, fd, F, b⟩ := D.ex
  refine C8.cal0 F b .nil sc_axis_of (fun vs H Q E h => ?_) (fun cdv A outer s H vs Q E hr h => ⟨_, (pss_one (ps_ret (pe_op op_fdiv (pv 0) pe_int))), ?_⟩)
  · obtain ⟨f, rfl, _⟩ := h
    rfl
  · obtain ⟨f, rfl, q⟩ := h
    exact ⟨_, rfl, _, _, rfl, rfl, ⟨by decide, by decide⟩, q⟩
theorem c_side_of (D : DefOk K mg "side_of" s_side_of ["face"]) : C8.Cal P w K mg base 1 "side_of" spSide [] := by
  obtain ⟨f, fd, F, b⟩ := D.ex
  refine C8.cal0 F b .nil sc_side_of (fun vs H Q E h => ?_) (fun cdv A outer s H vs Q E hr h => ⟨_, (pss_one (ps_ret (pe_op op_sub (pe_op op_mul pe_int (pe_op op_mod (pv 0) pe_int)) pe_int))), ?_⟩)
  · obtain ⟨f, rfl, _⟩ := h
    rfl
  · obtain ⟨f, rfl, q⟩ := h
    refine ⟨_, rfl, _, _, rfl, rfl, (by show (0 : Int) < 2; decide), _, _, rfl, rfl, .inl ⟨by decide, by decide⟩, _, _, rfl, rfl, ?_⟩
    exact q
theorem c_height_of (D : DefOk K mg "height_of" s_height_of ["lengths", "face"]) (c_axis_of : C8.Cal P w K mg base 1 "axis_of" spAxis []) : C8.Cal P w K mg base 2 "height_of" (spHeight K) [] := by
  obtain ⟨f, fd, F, b⟩ := D.ex
  refine C8.cal0 F b .nil sc_height_of (fun vs H Q E h => ?_) (fun cdv A outer s H vs Q E hr h => ⟨_, (pss_one (ps_ret (pe_op op_mul (pe_ix ix_list (pv 0) (C8.pe_c c_axis_of hr (by omega) rfl (pa_cons (pv 1) pa_nil)) (fun _ _ => rfl)) (pe_op op_mod (pv 1) pe_int)))), ?_⟩)
  · obtain ⟨a, box, f, rfl, _⟩ := h
    rfl
  · obtain ⟨a, box, f, rfl, h1, h2, q⟩ := h
    refine ⟨_, rfl, _, rfl, _, rfl, _, _, _, _, rfl, rfl, h1, at_nv h2, _, rfl, _, _, rfl, rfl, (by show (0 : Int) < 2; decide), _, _, rfl, rfl, .inr ⟨?_, ?_⟩, ?_⟩
    · show -(2 ^ 64) < (f : Int) % 2
      omega
    · show (f : Int) % 2 < 2 ^ 64
      omega
    · exact q
end
end SF

/-! ## W2 -/
set_option Elab.async false
set_option maxRecDepth 100000
set_option maxHeartbeats 2000000
namespace SF
open PySem PySem.Spec PyProof.Rows L2
def facesM (box p : List Nat) : List Nat := if (List.range 3).all (fun k => decide (Sy73.nth p k ≤ Sy73.nth box k)) = true then Sy73.facesOf box p else []
def spFaces (K : Frg) : Sp := fun vs H Q _ => ∃ (a b : Addr) (box p : List Nat), vs = [.ref a, .ref b] ∧ SqL K H a (box.map nv) ∧ SqL K H b (p.map nv) ∧ box.length = 3 ∧ p.length = 3 ∧
  ∀ (H' : Hp) (q : Addr), Same H H' → H q = none → H' q = some (.lst ((facesM box p).map nv)) → Q (.ref q) H'
def spFollow (K : Frg) : Sp := fun vs H Q _ => ∃ (a : Addr) (row : List Nat) (f : Nat), vs = [.ref a, nv f] ∧ SqL K H a (row.map nv) ∧ row ≠ [] ∧ Q (.bl (canM row f)) H
theorem same_upd {H H' : Hp} {p : Addr} {o : HO} (s : Same H H') (n : H p = none) : Same H (upd H' p o) := fun b x e => by
  rw [upd_ne (ne_of_none e n)]
  exact s b x e
theorem take3 {α : Type} (l : List α) (h : l.length = 3) : ∃ a b c, l = [a, b, c] := by
  match l, h with
  | [a, b, c], _ => exact ⟨a, b, c, rfl⟩
theorem map_lt {α : Type} {n : Nat} {l : List α} (h : n < l.length) : n < l.length := h
theorem inV_nv (row : List Nat) (f : Nat) : inV (nv f) (row.map nv) = row.contains f := by
  unfold inV
  rw [List.any_map]
  induction row with
  | nil => rfl
  | cons a r ih =>
    rw [List.any_cons, ih, List.contains_cons]
    congr 1
    show decide ((a : Int) = (f : Int)) = (f == a)
    rw [Bool.eq_iff_iff, decide_eq_true_eq, beq_iff_eq]
    omega
theorem flat_nv (row : List Nat) : (row.map nv).all flatV = true := by
  rw [List.all_map, List.all_eq_true]
  intro x _
  rfl
theorem at_last {row : List Nat} {x : Nat} (h : row.getLast? = some x) : atI (row.map nv) (-1) = some (nv x) := by
  have hn : row ≠ [] := by
    rintro rfl
    cases h
  have hl : 0 < row.length := List.length_pos_iff.mpr hn
  unfold atI ixN
  rw [List.length_map, if_neg (by omega), if_pos (by omega)]
  show (row.map nv)[(-1 + (row.length : Int)).toNat]? = _
  have e : (-1 + (row.length : Int)).toNat = row.length - 1 := by omega
  rw [e, List.getElem?_map, ← List.getLast?_eq_getElem?, h]
  rfl
section
variable {P : Program} {w : World} {K : Frg} {mg : Str → Option Value} {base : Heap} {cS cE cL cB : Addr}
theorem c_faces_at (D : DefOk K mg "faces_at" s_faces_at ["lengths", "point"]) (T : Tx K mg cS cE cL cB) (c_axis_of : C8.Cal P w K mg base 1 "axis_of" spAxis []) (c_height_of : C8.Cal P w K mg base 2 "height_of" (spHeight K) []) :
    C8.Cal P w K mg base 3 "faces_at" (spFaces K) [] := by
  obtain ⟨f, fd, F, b⟩ := D.ex
  refine C8.cal0 F b .nil sc_faces_at (fun vs H Q E h => ?_) (fun cdv A outer s H vs Q E hr h => ⟨_, (pss_cons (ps_for PassesOwn.never rfl (pi_range1 rfl T.n_range (pa_cons (pe_globI rfl T.g_AXES) pa_nil)) (pg_name (i := 2) sc_faces_at.nd rfl (Or.inl rfl))
      (pss_one (ps_if (PW.pt (pw_or (pt_cmpR op_lt (pe_ix ix_list (pv 1) (pv 2) (fun _ _ => rfl)) pe_int (nomark _)) (pw_or1 (pt_cmpR op_gt (pe_ix ix_list (pv 1) (pv 2) (fun _ _ => rfl)) (pe_ix ix_list (pv 0) (pv 2) (fun _ _ => rfl)) (nomark _)))))
      (pss_one (ps_ret (pe_lst pa_nil)))
      pss_nil)))
    (pss_one (ps_ret (pe_lc (own := [("face", 3)]) (g := (gName 3)) rfl sc_faces_at.nd (pi_range1 rfl T.n_range (pa_cons (pe_globI rfl T.g_FACES) pa_nil)) (blkOk_by (own := [("face", 3)]) (N := N_faces_at) (sc := (C8.fnScope s_faces_at)) (by decide +kernel)) (fun _ _ _ _ _ => pg_name (i := 3) sc_faces_at.nd rfl (Or.inl rfl)) (fun _ _ _ _ _ => (pts_one (pt_cmpR op_eq (pe_ix (ix_listK K) (pv 1) (C8.pe_c c_axis_of hr (by omega) rfl (pa_cons (pv 3) pa_nil)) (fun _ _ => rfl)) (C8.pe_c c_height_of hr (by omega) rfl (pa_cons (pv 0) (pa_cons (pv 3) pa_nil))) (nomark _)))) (fun _ _ _ _ _ => (pv 3)))))), ?_⟩)
  · obtain ⟨a, b, box, p, rfl, _⟩ := h
    rfl
  · obtain ⟨a, b, box, p, rfl, hA, hB, lA, lB, q⟩ := h
    have nB : ∀ k, Sy73.nth box k = box.getD k 0 := fun _ => rfl
    have nP : ∀ k, Sy73.nth p k = p.getD k 0 := fun _ => rfl
    refine ⟨3, rfl, by decide, by decide, for_range (lo := 0) (n := 3) (fun i σ H' => ∃ v, σ = [some (.ref a), some (.ref b), v, none] ∧ H' = H ∧ ∀ k, k < i → Sy73.nth p k ≤ Sy73.nth box k) ⟨none, rfl, rfl, fun k hk => absurd hk (Nat.not_lt_zero _)⟩ ?_ ?_⟩
    · rintro i σ H' hi ⟨v, rfl, rfl, inv⟩
      have ei : (0 : Int) + (i : Int) = (i : Int) := by omega
      rw [ei]
      refine ⟨_, rfl, _, rfl, _, _, _, _, rfl, rfl, hB, at_nv (by omega), _, _, rfl, rfl, _, rfl, ?_⟩
      have e1 : decide (((p.getD i 0 : Nat) : Int) < 0) = false := decide_eq_false (by omega)
      rw [e1]
      refine iteF ⟨_, rfl, _, rfl, _, _, _, _, rfl, rfl, hB, at_nv (by omega), _, rfl, _, rfl, _, _, _, _, rfl, rfl, hA, at_nv (by omega), _, _, rfl, rfl, _, rfl, ?_⟩
      refine ite2 (fun h => ?_) (fun h => ?_)
      · -- outside
        have h : (((box.getD i 0 : Nat) : Int) < ((p.getD i 0 : Nat) : Int)) := of_decide_eq_true h
        refine ⟨by decide, fun l hl => ?_⟩
        refine q _ _ (same_upd (Same.refl _) hl) hl ?_
        rw [upd_same]
        have e : facesM box p = [] := by
          unfold facesM
          refine if_neg fun c => ?_
          have := List.all_eq_true.mp c i (List.mem_range.mpr hi)
          rw [decide_eq_true_eq, nB, nP] at this
          omega
        rw [e]
        rfl
      · refine ⟨_, rfl, rfl, fun k hk => ?_⟩
        have h : ¬ (((box.getD i 0 : Nat) : Int) < ((p.getD i 0 : Nat) : Int)) := fun c => h (decide_eq_true c)
        by_cases c : k = i
        · subst c
          rw [nB, nP]
          omega
        · exact inv k (by omega)
    · rintro σ H' ⟨v, rfl, rfl, inv⟩
      have eF : facesM box p = Sy73.facesOf box p := by
        unfold facesM
        refine if_pos (List.all_eq_true.mpr fun k hk => ?_)
        exact decide_eq_true (inv k (List.mem_range.mp hk))
      refine ⟨6, rfl, by decide, by decide, fun D hD => lc_range (lo := 0) (n := 6) (fun i H1 => Same H' H1 ∧ H1 D = some (.lst (((List.range i).filter (Sy73.onFace box p)).map nv))) ⟨same_upd (Same.refl _) hD, upd_same⟩ ?_ ?_⟩
      · rintro i H1 hi ⟨s1, hd⟩
        have ei : (0 : Int) + (i : Int) = (i : Int) := by omega
        rw [ei]
        have h2 : i / 2 < 3 := by omega
        refine ⟨rfl, _, rfl, _, rfl, i, rfl, _, _, _, _, rfl, rfl, s1.seq hB, at_nv (by omega), _, rfl, _, rfl, a, box, i, rfl, s1.seq hA, by omega, ?_⟩
        have hdec : (decide (nv (p.getD (i / 2) 0) = V.int (lev box i))) = Sy73.onFace box p i := by
          rw [Bool.eq_iff_iff, decide_eq_true_eq, onFace_iff]
          constructor
          · intro z
            have z2 := V.int.inj z
            exact z2
          · intro z
            show V.int _ = V.int _
            exact congrArg V.int z
        refine ⟨rfl, _, rfl, ?_⟩
        rw [hdec]
        refine ite2 (fun h => ?_) (fun h => ?_)
        · refine ⟨_, rfl, _, hd, ?_, same_upd s1 hD, ?_⟩
          · refine small1000 ?_
            rw [List.length_map]
            have := List.length_filter_le (Sy73.onFace box p) (List.range i)
            rw [List.length_range] at this
            omega
          · rw [upd_same, range_succ_filter, if_pos h, List.map_append]
            rfl
        · refine ⟨s1, ?_⟩
          rw [hd, range_succ_filter, if_neg h, List.append_nil]
      · rintro H1 ⟨s1, hd⟩
        refine q _ _ s1 hD ?_
        rw [hd, eF]
        rfl
theorem c_can_follow (D : DefOk K mg "can_follow" s_can_follow ["row", "face"]) (c_axis_of : C8.Cal P w K mg base 1 "axis_of" spAxis []) :
    C8.Cal P w K mg base 2 "can_follow" (spFollow K) [] := by
  obtain ⟨f, fd, F, b⟩ := D.ex
  refine C8.cal0 F b .nil sc_can_follow (fun vs H Q E h => ?_) (fun cdv A outer s H vs Q E hr h => ⟨_, (pss_one (ps_ret (pe_and (pe_cmpR op_notIn_seq (pv 1) (pv 0) rfl) (pe_one (pe_cmpR op_ne (C8.pe_c c_axis_of hr (by omega) rfl (pa_cons (pv 1) pa_nil)) (C8.pe_c c_axis_of hr (by omega) rfl (pa_cons (pe_ix ix_list (pv 0) (pe_un un_neg pe_int) (fun _ _ => rfl)) pa_nil)) (nomark _)))))), ?_⟩)
  · obtain ⟨a, row, f, rfl, _⟩ := h
    rfl
  · obtain ⟨a, row, f, rfl, hA, hn, q⟩ := h
    obtain ⟨x, hx⟩ : ∃ x, row.getLast? = some x := by
      cases e : row.getLast? with
      | none => exact absurd (List.getLast?_eq_none_iff.mp e) hn
      | some x => exact ⟨x, rfl⟩
    refine ⟨_, rfl, _, rfl, _, _, rfl, .inl hA, rfl, flat_nv row, _, rfl, ?_⟩
    have e1 : (if true = true then !inV (nv f) (row.map nv) else inV (nv f) (row.map nv)) = !row.contains f := by
      rw [if_pos rfl, inV_nv]
    rw [e1]
    refine ite2 (fun h => ?_) (fun h => ?_)
    · refine ⟨_, rfl, f, rfl, _, rfl, _, rfl, _, _, _, _, rfl, rfl, hA, at_last hx, x, rfl, rfl, ?_⟩
      have e : canM row f = !decide (nv (f / 2) = nv (x / 2)) := by
        unfold canM
        rw [hx, h]
        show (true && Sy73.beside f x) = _
        rw [Bool.true_and]
        unfold Sy73.beside Sy73.axis
        by_cases c : f / 2 = x / 2
        · rw [c]
          simp
        · have c2 : ¬ nv (f / 2) = nv (x / 2) := fun z => c (Int.ofNat.inj (V.int.inj z))
          rw [decide_eq_false c2]
          simp [c]
      show Q (.bl (!decide (nv (f / 2) = nv (x / 2)))) H
      rw [← e]
      exact q
    · have e : canM row f = false := by
        unfold canM
        have : (!row.contains f) = false := by simpa using h
        rw [this]
        rfl
      rw [e] at q
      exact q
end
end SF

/-! ## W3 -/
set_option Elab.async false
set_option maxRecDepth 100000
set_option maxHeartbeats 2000000
namespace SF
open PySem PySem.Spec PyProof.Rows L2
def isRowM (fs : List Nat) : Bool := !fs.isEmpty && (fs.all (fun f => decide (f < 6)) && (List.range (fs.length - 1)).all (fun k => canM (fs.take (k + 1)) (fs.getD (k + 1) 0)))
def spIsRow (K : Frg) : Sp := fun vs H Q _ => ∃ (a : Addr) (fs : List Nat), vs = [.ref a] ∧ SqL K H a (fs.map nv) ∧ fs.length ≤ 1000 ∧ ∀ H' : Hp, Same H H' → Q (.bl (isRowM fs)) H'
/-- a row of faces at an address -/
def RowAt (H : Hp) (a : Addr) (r : List Nat) : Prop := r ≠ [] ∧ H a = some (.lst (r.map nv))
def RowsAt (H : Hp) (as : List Addr) (rs : List (List Nat)) : Prop := Paired (RowAt H) as rs
def refs (as : List Addr) : List V := as.map V.ref
theorem RowAt.same {H H' : Hp} {a : Addr} {r : List Nat} (h : RowAt H a r) (s : Same H H') : RowAt H' a r := ⟨h.1, s _ _ h.2⟩
theorem RowsAt.same {H H' : Hp} {as : List Addr} {rs : List (List Nat)} (h : RowsAt H as rs) (s : Same H H') : RowsAt H' as rs := Paired.mono (fun _ _ q => RowAt.same q s) h
theorem row_ne {H : Hp} {a R : Addr} {r : List Nat} {as : List Addr} (h : RowAt H a r) (hR : H R = some (.lst (refs as))) : a ≠ R := by
  rintro rfl
  obtain ⟨hn, e⟩ := h
  rw [hR] at e
  have e2 : refs as = r.map nv := by
    injection e with e
    injection e
  cases r with
  | nil => exact hn rfl
  | cons x r =>
    cases as with
    | nil => cases e2
    | cons y as =>
      injection e2 with e3 _
      cases e3
theorem RowsAt.put {H : Hp} {R : Addr} {as bs : List Addr} {rs : List (List Nat)} {o : HO} (h : RowsAt H bs rs) (hR : H R = some (.lst (refs as))) : RowsAt (upd H R o) bs rs :=
  Paired.mono (fun a r q => ⟨q.1, by rw [upd_ne (row_ne q hR)]; exact q.2⟩) h
theorem paired_app {α β : Type} {F : α → β → Prop} {a b : List α} {c d : List β} (h : Paired F a c) (k : Paired F b d) : Paired F (a ++ b) (c ++ d) := by
  induction h with
  | nil => exact k
  | cons h1 _ ih => exact .cons h1 ih
theorem paired_at {α β : Type} {F : α → β → Prop} {xs : List α} {ys : List β} (h : Paired F xs ys) : ∀ {i : Nat} {x : α}, xs[i]? = some x → ∃ y, ys[i]? = some y ∧ F x y := by
  induction h with
  | nil =>
    intro i x h
    simp at h
  | cons h1 _ ih =>
    intro i x h
    cases i with
    | zero =>
      cases h
      exact ⟨_, rfl, h1⟩
    | succ i => exact ih h
abbrev s_is_row : Stmt := top 12
abbrev N_is_row : List Str := ["faces", "k"]
theorem sc_is_row : FnScope N_is_row ["faces"] (C8.fnScope s_is_row) := C8.fnScope_by (by decide +kernel)
theorem cut_take (xs : List V) (k : Nat) : cutV xs none (some (k : Int)) = xs.take k := by
  unfold cutV
  rw [HT.sIx_none, HT.sIx_nat, List.drop_zero]
  rcases Nat.le_total k xs.length with h | h
  · rw [Nat.min_eq_left h]
    rfl
  · rw [Nat.min_eq_right h, List.take_of_length_le (by omega), List.take_of_length_le h]
section
variable {P : Program} {w : World} {K : Frg} {mg : Str → Option Value} {base : Heap} {cS cE cL cB : Addr}
theorem c_is_row (D : DefOk K mg "is_row" s_is_row ["faces"]) (T : Tx K mg cS cE cL cB) (c_can_follow : C8.Cal P w K mg base 2 "can_follow" (spFollow K) []) : C8.Cal P w K mg base 3 "is_row" (spIsRow K) [] := by
  obtain ⟨f, fd, F, b⟩ := D.ex
  refine C8.cal0 F b .nil sc_is_row (fun vs H Q E h => ?_) (fun cdv A outer s H vs Q E hr h => ⟨_, (pss_cons (ps_if (PW.pt (pw_or (pt_cmpR op_eq (pe_callB call_len_seq (by rfl) T.n_len PySem.boot_len (pa_cons (pv 0) pa_nil)) pe_int (nomark _)) (pw_or1 (pt_cmpR op_ge (pe_callB (cr_max rfl) (by rfl) T.n_max (by decide +kernel) (pa_cons (pv 0) pa_nil)) (pe_globI rfl T.g_FACES) (nomark _)))))
      (pss_one (ps_ret pe_bl))
      pss_nil)
    (pss_cons (ps_for PassesOwn.never rfl (pi_range2 rfl T.n_range (pa_cons pe_int (pa_cons (pe_callB call_len_seq (by rfl) T.n_len PySem.boot_len (pa_cons (pv 0) pa_nil)) pa_nil))) (pg_name (i := 1) sc_is_row.nd rfl (Or.inl rfl))
      (pss_one (ps_if (pt_not (pt_val (C8.pe_c c_can_follow hr (by omega) rfl (pa_cons (pe_slice sl_list (pv 0) po_none (po_some (pv 1))) (pa_cons (pe_ix ix_list (pv 0) (pv 1) (fun _ _ => rfl)) pa_nil)))))
      (pss_one (ps_ret pe_bl))
      pss_nil)))
    (pss_one (ps_ret pe_bl)))), ?_⟩)
  · obtain ⟨a, fs, rfl, _⟩ := h
    rfl
  · obtain ⟨a, fs, rfl, hA, hl, q⟩ := h
    have hlen : (fs.map nv).length = fs.length := List.length_map ..
    refine ⟨_, rfl, a, _, rfl, .inl hA, rfl, _, rfl, ?_⟩
    have e0 : decide (V.int ((fs.map nv).length : Int) = V.int 0) = fs.isEmpty := by
      cases fs with
      | nil => rfl
      | cons x r =>
        refine decide_eq_false fun z => ?_
        have := V.int.inj z
        simp only [List.length_map, List.length_cons] at this
        omega
    rw [e0]
    refine ite2 (fun c => ?_) (fun c => ?_)
    · have e : isRowM fs = false := by
        unfold isRowM
        rw [c]
        rfl
      have := q H (Same.refl _)
      rw [e] at this
      exact iteT this
    · have hne : fs ≠ [] := by
        rintro rfl
        exact c rfl
      have hpos : 0 < fs.length := List.length_pos_iff.mpr hne
      have ce : fs.isEmpty = false := by simpa using c
      refine ⟨_, rfl, a, fs.map (fun (n : Nat) => (n : Int)), rfl, by rw [← nv_map]; exact hA, by rw [List.length_map]; exact hpos, fun m hm hle => ⟨_, _, rfl, rfl, _, rfl, ?_⟩⟩
      refine ite2 (fun c2 => ?_) (fun c2 => ?_)
      · have c2 : (6 : Int) ≤ m := of_decide_eq_true c2
        obtain ⟨x, hx, rfl⟩ := List.mem_map.mp hm
        have e : isRowM fs = false := by
          unfold isRowM
          have : fs.all (fun f => decide (f < 6)) = false := by
            rw [Bool.eq_false_iff]
            intro z
            have := of_decide_eq_true (List.all_eq_true.mp z x hx)
            omega
          rw [this, ce]
          rfl
        have := q H (Same.refl _)
        rw [e] at this
        exact this
      · have c2 : ¬ (6 : Int) ≤ m := fun z => c2 (decide_eq_true z)
        have eall : fs.all (fun f => decide (f < 6)) = true := by
          rw [List.all_eq_true]
          intro x hx
          have := hle (x : Int) (List.mem_map.mpr ⟨x, hx, rfl⟩)
          exact decide_eq_true (by omega)
        have eM : isRowM fs = (List.range (fs.length - 1)).all (fun k => canM (fs.take (k + 1)) (fs.getD (k + 1) 0)) := by
          unfold isRowM
          rw [ce, eall]
          rfl
        refine ⟨_, rfl, a, _, rfl, .inl hA, 1, _, rfl, ⟨by decide, by decide, by omega, by rw [hlen]; omega⟩, ?_⟩
        have en : (((fs.map nv).length : Int) - 1).toNat = fs.length - 1 := by rw [hlen]; omega
        rw [en]
        refine for_range (lo := 1) (n := fs.length - 1) (fun i σ H' => ∃ v, σ = [some (.ref a), v] ∧ Same H H' ∧ (List.range i).all (fun k => canM (fs.take (k + 1)) (fs.getD (k + 1) 0)) = true) ⟨none, rfl, Same.refl _, rfl⟩ ?_ ?_
        · rintro i σ H' hi ⟨v, rfl, s1, inv⟩
          have ei : (1 : Int) + (i : Int) = ((i + 1 : Nat) : Int) := by omega
          rw [ei]
          refine ⟨_, rfl, _, rfl, _, rfl, a, _, rfl, s1.seq hA, fun p hp => ?_⟩
          rw [cut_take, ← List.map_take]
          have s2 := same_upd s1 (s1.free hp) (o := .lst ((fs.take (i + 1)).map nv))
          refine ⟨_, rfl, _, rfl, _, _, _, _, rfl, rfl, s2.seq hA, at_nv (by omega), p, fs.take (i + 1), fs.getD (i + 1) 0, rfl, SqL.of upd_same, ?_, _, rfl, ?_⟩
          · intro z
            have := congrArg List.length z
            rw [List.length_take] at this
            simp only [List.length_nil] at this
            omega
          · refine ite2 (fun c3 => ?_) (fun c3 => ?_)
            · have c3 : canM (fs.take (i + 1)) (fs.getD (i + 1) 0) = false := by simpa using c3
              have e : isRowM fs = false := by
                rw [eM, Bool.eq_false_iff]
                intro z
                have := List.all_eq_true.mp z i (List.mem_range.mpr hi)
                rw [c3] at this
                cases this
              have := q _ s2
              rw [e] at this
              exact this
            · have c3 : canM (fs.take (i + 1)) (fs.getD (i + 1) 0) = true := by simpa using c3
              refine ⟨_, rfl, s2, ?_⟩
              rw [List.range_succ, List.all_append, inv]
              show (true && (canM (fs.take (i + 1)) (fs.getD (i + 1) 0) && true)) = true
              rw [c3]
              rfl
        · rintro σ H' ⟨v, rfl, s1, inv⟩
          have := q H' s1
          rw [eM, inv] at this
          exact this
end
end SF

/-! ## W4 -/
set_option Elab.async false
set_option maxRecDepth 100000
set_option maxHeartbeats 2000000
namespace SF
open PySem PySem.Spec PyProof.Rows L2
theorem take_snoc {α : Type} {l : List α} {i : Nat} {x : α} (h : l[i]? = some x) : l.take (i + 1) = l.take i ++ [x] := by
  rw [List.take_add_one, h]
  rfl
theorem nv_at {l : List Nat} {i : Nat} {v : V} (h : (l.map nv)[i]? = some v) : ∃ n, l[i]? = some n ∧ v = nv n := by
  rw [List.getElem?_map] at h
  cases e : l[i]? with
  | none =>
    rw [e] at h
    cases h
  | some n =>
    rw [e] at h
    exact ⟨n, rfl, (Option.some.inj h).symm⟩
theorem refs_at {as : List Addr} {i : Nat} {v : V} (h : (refs as)[i]? = some v) : ∃ a, as[i]? = some a ∧ v = .ref a := by
  unfold refs at h
  rw [List.getElem?_map] at h
  cases e : as[i]? with
  | none =>
    rw [e] at h
    cases h
  | some n =>
    rw [e] at h
    exact ⟨n, rfl, (Option.some.inj h).symm⟩
/-! ### a heap without some addresses -/
open Classical in
noncomputable def wo (H : Hp) (A : Addr → Prop) : Hp := fun b => if A b then none else H b
theorem wo_no {H : Hp} {A : Addr → Prop} {b : Addr} (h : ¬ A b) : wo H A b = H b := if_neg h
theorem wo_yes {H : Hp} {A : Addr → Prop} {b : Addr} (h : A b) : wo H A b = none := if_pos h
theorem wo_le (H : Hp) (A : Addr → Prop) : Same (wo H A) H := fun b o e => by
  by_cases h : A b
  · rw [wo_yes h] at e
    cases e
  · rw [wo_no h] at e
    exact e
theorem wo_same {H H' : Hp} (A : Addr → Prop) (s : Same H H') : Same (wo H A) (wo H' A) := fun b o e => by
  by_cases h : A b
  · rw [wo_yes h] at e
    cases e
  · rw [wo_no h] at e ⊢
    exact s _ _ e
theorem wo_upd {H : Hp} {A : Addr → Prop} {R : Addr} {o : HO} (h : A R) : wo (upd H R o) A = wo H A := funext fun b => by
  by_cases c : A b
  · rw [wo_yes c, wo_yes c]
  · rw [wo_no c, wo_no c, upd_ne (fun z => c (by rw [z]; exact h))]
theorem wo_anti {H : Hp} {A B : Addr → Prop} (h : ∀ b, A b → B b) : Same (wo H B) (wo H A) := fun b o e => by
  by_cases c : B b
  · rw [wo_yes c] at e
    cases e
  · rw [wo_no c] at e
    rw [wo_no (fun z => c (h b z))]
    exact e
/-- what stood in H' s own heap H without R stands without R in what came of it -/
def orR (A : Addr → Prop) (R : Addr) : Addr → Prop := fun b => A b ∨ b = R
theorem wo_add {H H' : Hp} {A : Addr → Prop} {R : Addr} (s : Same H H') (n : H R = none) : Same (wo H A) (wo H' (orR A R)) := fun b o e => by
  by_cases c : A b
  · rw [wo_yes c] at e
    cases e
  · rw [wo_no c] at e
    rw [wo_no (fun z => z.elim c (fun z => by rw [z, n] at e; cases e))]
    exact s _ _ e
theorem wo_get {H : Hp} {A : Addr → Prop} {b : Addr} {o : HO} (h : H b = some o) (n : ¬ A b) : wo H A b = some o := by
  rw [wo_no n]
  exact h
/-- A holds only where something stands -/
def Old (A : Addr → Prop) (H : Hp) : Prop := ∀ b, A b → H b ≠ none
theorem Old.no {A : Addr → Prop} {H : Hp} (o : Old A H) {b : Addr} (h : H b = none) : ¬ A b := fun z => o b z h
theorem Old.same {A : Addr → Prop} {H H' : Hp} (o : Old A H) (s : Same H H') : Old A H' := fun b z e => by
  cases k : H b with
  | none => exact o b z k
  | some x =>
    have := s _ _ k
    rw [e] at this
    cases this
theorem Old.add {A : Addr → Prop} {H H' : Hp} {R : Addr} (o : Old A H) (s : Same H H') (h : H' R ≠ none) : Old (orR A R) H' := fun b z => z.elim ((o.same s) b) (fun z => by rw [z]; exact h)
theorem Old.upd {A : Addr → Prop} {H : Hp} {R : Addr} {x : HO} (o : Old A H) : Old A (upd H R x) := fun b z e => by
  by_cases c : b = R
  · subst c
    rw [upd_same] at e
    cases e
  · rw [upd_ne c] at e
    exact o b z e
theorem old_none {H : Hp} : Old (fun _ => False) H := fun _ z => z.elim
theorem wo_none (H : Hp) : wo H (fun _ => False) = H := funext fun _ => wo_no (fun z => z)
/-- all that stands in H -/
def allOf (H : Hp) : Addr → Prop := fun b => H b ≠ none
theorem old_all (H : Hp) : Old (allOf H) H := fun _ z => z
end SF

/-! ## W5 -/
set_option Elab.async false
set_option maxRecDepth 100000
set_option maxHeartbeats 2000000
namespace SF
open PySem PySem.Spec PyProof.Rows L2
/-! ### scales and edges in the heap -/
def scF (s : Scl) : List (Str × V) := [("axis", nv s.axis), ("start", .int s.start), ("sign", .int s.sign)]
def ScAt (C : Addr) (H : Hp) (a : Addr) (s : Scl) : Prop := ∃ dx, H a = some (.ins C dx (scF s))
def acrossI (b : Bool) : Int := if b = true then 0 else 1
def edF (e : Edg) : List (Str × V) := [("across", .int (acrossI e.fst)), ("where", .int e.wh), ("low", .int e.lo), ("high", .int e.hi)]
def EdAt (C : Addr) (H : Hp) (a : Addr) (e : Edg) : Prop := ∃ dx, H a = some (.ins C dx (edF e))
def ScalesAt (C : Addr) (H : Hp) (q : Addr) (s : Scl × Scl) : Prop := ∃ a1 a2, H q = some (.lst [.ref a1, .ref a2]) ∧ ScAt C H a1 s.1 ∧ ScAt C H a2 s.2
theorem ScAt.same {C : Addr} {H H' : Hp} {a : Addr} {s : Scl} (h : ScAt C H a s) (k : Same H H') : ScAt C H' a s := by
  obtain ⟨dx, h⟩ := h
  exact ⟨dx, k _ _ h⟩
theorem EdAt.same {C : Addr} {H H' : Hp} {a : Addr} {s : Edg} (h : EdAt C H a s) (k : Same H H') : EdAt C H' a s := by
  obtain ⟨dx, h⟩ := h
  exact ⟨dx, k _ _ h⟩
theorem ScalesAt.same {C : Addr} {H H' : Hp} {a : Addr} {s : Scl × Scl} (h : ScalesAt C H a s) (k : Same H H') : ScalesAt C H' a s := by
  obtain ⟨a1, a2, h, h1, h2⟩ := h
  exact ⟨a1, a2, k _ _ h, h1.same k, h2.same k⟩
/-- a list's change leaves the scales -/
theorem ScAt.put {C D : Addr} {A : Addr → Prop} {H : Hp} {l l' : List V} {a : Addr} {s : Scl} (hD : H D = some (.lst l)) (h : ScAt C (wo H A) a s) : ScAt C (wo (upd H D (.lst l')) A) a s := by
  obtain ⟨d, h⟩ := h
  by_cases c : A a
  · rw [wo_yes c] at h
    cases h
  · rw [wo_no c] at h
    have : a ≠ D := by
      rintro rfl
      rw [hD] at h
      cases h
    exact ⟨d, by rw [wo_no c, upd_ne this]; exact h⟩
def Sg (s : Scl) : Prop := s.sign = 1 ∨ s.sign = -1
def spScI (C : Addr) : Sp := fun vs H Q _ => ∃ (p dx : Addr) (s : Scl), vs = [.ref p, nv s.axis, .int s.start, .int s.sign] ∧ H p = some (.ins C dx []) ∧ ∀ H' : Hp, ScAt C H' p s → (∀ b o, H b = some o → b ≠ p → H' b = some o) → Q .non H'
def spEdI (C : Addr) : Sp := fun vs H Q _ => ∃ (p dx : Addr) (e : Edg), vs = [.ref p, .int (acrossI e.fst), .int e.wh, .int e.lo, .int e.hi] ∧ H p = some (.ins C dx []) ∧ ∀ H' : Hp, EdAt C H' p e → (∀ b o, H b = some o → b ≠ p → H' b = some o) → Q .non H'
def spPlace (C : Addr) : Sp := fun vs H Q _ => ∃ (a : Addr) (s : Scl) (c : Int), vs = [.ref a, .int c] ∧ ScAt C H a s ∧ Sg s ∧ Q (.int (s.place c)) H
def spFirst (C : Addr) : Sp := fun vs H Q _ => ∃ f : Nat, vs = [nv f] ∧ f < 6 ∧ ∀ (H' : Hp) (q : Addr), Same H H' → H q = none → ScalesAt C (wo H' (allOf H)) q (firstM f) → Q (.ref q) H'
def spAcross (C : Addr) : Sp := fun vs H Q _ => ∃ (a : Addr) (s : Scl × Scl) (g : Nat), vs = [.ref a, nv g] ∧ ScalesAt C H a s ∧ Q (.int (acrossI (axCross s g))) H
def spEdge (K : Frg) (C C2 : Addr) : Sp := fun vs H Q _ => ∃ (a b : Addr) (box : List Nat) (s : Scl × Scl) (g : Nat), vs = [.ref a, .ref b, nv g] ∧ SqL K H a (box.map nv) ∧ box.length = 3 ∧ ScalesAt C H b s ∧ Sg s.1 ∧ Sg s.2 ∧ s.1.axis < 3 ∧ s.2.axis < 3 ∧ g < 6 ∧
  ∀ (H' : Hp) (q : Addr), Same H H' → H q = none → EdAt C2 H' q (edgeM box s g) → Q (.ref q) H'
def spBeyond (K : Frg) (C : Addr) : Sp := fun vs H Q _ => ∃ (A : Addr → Prop) (a b : Addr) (box : List Nat) (s : Scl × Scl) (f g : Nat), Old A H ∧ vs = [.ref a, .ref b, nv f, nv g] ∧ SqL K H a (box.map nv) ∧ box.length = 3 ∧ ScalesAt C (wo H A) b s ∧ Sg s.1 ∧ Sg s.2 ∧ f < 6 ∧ g < 6 ∧
  ∀ (H' : Hp) (q : Addr), Same H H' → H q = none → ScalesAt C (wo H' A) q (beyondM box s f g) → Q (.ref q) H'
abbrev s_Scale___init__ : Stmt := inC (top 3) 0
abbrev N_Scale___init__ : List Str := ["self", "axis", "start", "sign"]
theorem sc_Scale___init__ : FnScope N_Scale___init__ ["self", "axis", "start", "sign"] (C8.fnScope s_Scale___init__) := C8.fnScope_by (by decide +kernel)
abbrev s_Scale_place : Stmt := inC (top 3) 1
abbrev N_Scale_place : List Str := ["self", "coordinate"]
theorem sc_Scale_place : FnScope N_Scale_place ["self", "coordinate"] (C8.fnScope s_Scale_place) := C8.fnScope_by (by decide +kernel)
abbrev s_Edge___init__ : Stmt := inC (top 4) 0
abbrev N_Edge___init__ : List Str := ["self", "across", "where", "low", "high"]
theorem sc_Edge___init__ : FnScope N_Edge___init__ ["self", "across", "where", "low", "high"] (C8.fnScope s_Edge___init__) := C8.fnScope_by (by decide +kernel)
abbrev s_first_scales : Stmt := top 13
abbrev N_first_scales : List Str := ["face", "axis"]
theorem sc_first_scales : FnScope N_first_scales ["face"] (C8.fnScope s_first_scales) := C8.fnScope_by (by decide +kernel)
abbrev s_coordinate_across : Stmt := top 14
abbrev N_coordinate_across : List Str := ["scales", "face"]
theorem sc_coordinate_across : FnScope N_coordinate_across ["scales", "face"] (C8.fnScope s_coordinate_across) := C8.fnScope_by (by decide +kernel)
abbrev s_edge_towards : Stmt := top 15
abbrev N_edge_towards : List Str := ["lengths", "scales", "face", "across", "along", "ends"]
theorem sc_edge_towards : FnScope N_edge_towards ["lengths", "scales", "face"] (C8.fnScope s_edge_towards) := C8.fnScope_by (by decide +kernel)
abbrev s_scales_beyond : Stmt := top 16
abbrev N_scales_beyond : List Str := ["lengths", "scales", "face", "following", "across", "where", "onwards", "sign", "beyond"]
theorem sc_scales_beyond : FnScope N_scales_beyond ["lengths", "scales", "face", "following"] (C8.fnScope s_scales_beyond) := C8.fnScope_by (by decide +kernel)
theorem sc_lk1 (s : Scl) : (scF s).lookup ("axis" : Str) = some (nv s.axis) := lk_here
theorem sc_lk2 (s : Scl) : (scF s).lookup ("start" : Str) = some (.int s.start) := (lk_past (by decide +kernel)).trans lk_here
theorem sc_lk3 (s : Scl) : (scF s).lookup ("sign" : Str) = some (.int s.sign) := (lk_past (by decide +kernel)).trans ((lk_past (by decide +kernel)).trans lk_here)
theorem sc_lk4 (s : Scl) : (scF s).lookup ("place" : Str) = none := (lk_past (by decide +kernel)).trans ((lk_past (by decide +kernel)).trans ((lk_past (by decide +kernel)).trans rfl))
theorem sc_put (s : Scl) : putF "sign" (.int s.sign) (putF "start" (.int s.start) (putF "axis" (nv s.axis) [])) = scF s := by
  show putF "sign" (.int s.sign) (putF "start" (.int s.start) [("axis", nv s.axis)]) = _
  rw [put_past (by decide +kernel)]
  show putF "sign" (.int s.sign) [("axis", nv s.axis), ("start", .int s.start)] = _
  rw [put_past (by decide +kernel), put_past (by decide +kernel)]
  rfl
theorem ed_put (e : Edg) : putF "high" (.int e.hi) (putF "low" (.int e.lo) (putF "where" (.int e.wh) (putF "across" (.int (acrossI e.fst)) []))) = edF e := by
  show putF "high" (.int e.hi) (putF "low" (.int e.lo) (putF "where" (.int e.wh) [("across", .int (acrossI e.fst))])) = _
  rw [put_past (by decide +kernel)]
  show putF "high" (.int e.hi) (putF "low" (.int e.lo) [("across", .int (acrossI e.fst)), ("where", .int e.wh)]) = _
  rw [put_past (by decide +kernel), put_past (by decide +kernel)]
  show putF "high" (.int e.hi) [("across", .int (acrossI e.fst)), ("where", .int e.wh), ("low", .int e.lo)] = _
  rw [put_past (by decide +kernel), put_past (by decide +kernel), put_past (by decide +kernel)]
  rfl
theorem side_abs (f : Nat) : sideI f = 1 ∨ sideI f = -1 := by
  unfold sideI
  rcases Nat.mod_two_eq_zero_or_one f with h | h <;> simp [h]
theorem small64 {i : Int} (h : i = 1 ∨ i = -1) : -(2 ^ 64) < i ∧ i < 2 ^ 64 := by
  rcases h with rfl | rfl <;> decide
section
variable {P : Program} {w : World} {K : Frg} {mg : Str → Option Value} {base : Heap} {cS cE cL cB : Addr}
theorem m_Scale (D : InitOk K mg "Scale" cS "Scale.__init__" s_Scale___init__ ["self", "axis", "start", "sign"]) (T : Tx K mg cS cE cL cB) : C8.Mak P w K mg base 1 "Scale" cS (spScI cS) [] := by
  obtain ⟨f, fd, M, F, b⟩ := D.ex
  refine C8.mak0 M D.mgc F b .nil sc_Scale___init__ (fun vs H Q E h => ?_) (fun cdv A outer s H vs Q E hr h => ⟨_, (pss_cons (ps_fld (pv 0) (pv 1) rfl)
    (pss_cons (ps_fld (pv 0) (pv 2) rfl)
    (pss_one (ps_fld (pv 0) (pv 3) rfl)))), ?_⟩)
  · obtain ⟨p, dx, s, rfl, _⟩ := h
    rfl
  · obtain ⟨p, dx, s, rfl, hp, k⟩ := h
    refine ⟨_, rfl, _, rfl, p, cS, dx, [], rfl, hp, T.clS, T.aS.1, (by show 0 < 1000; decide), ?_⟩
    refine ⟨_, rfl, _, rfl, p, cS, dx, _, rfl, upd_same, T.clS, T.aS.2.1, (by show 1 < 1000; decide), ?_⟩
    refine ⟨_, rfl, _, rfl, p, cS, dx, _, rfl, upd_same, T.clS, T.aS.2.2, ?_, ?_⟩
    · have e : putF "start" (.int s.start) (putF "axis" (nv s.axis) []) = ([("axis", nv s.axis), ("start", .int s.start)] : List (Str × V)) := by
        show putF "start" (.int s.start) [("axis", nv s.axis)] = _
        rw [put_past (by decide +kernel)]
        rfl
      show (putF "start" (.int s.start) (putF "axis" (nv s.axis) [])).length < 1000
      rw [e]
      show 2 < 1000
      decide
    · exact k _ ⟨dx, Eq.trans upd_same (congrArg (fun q => some (HO.ins cS dx q)) (sc_put s))⟩ fun b o e hb => by
        rw [upd_ne hb, upd_ne hb, upd_ne hb]
        exact e
theorem m_Edge (D : InitOk K mg "Edge" cE "Edge.__init__" s_Edge___init__ ["self", "across", "where", "low", "high"]) (T : Tx K mg cS cE cL cB) : C8.Mak P w K mg base 1 "Edge" cE (spEdI cE) [] := by
  obtain ⟨f, fd, M, F, b⟩ := D.ex
  refine C8.mak0 M D.mgc F b .nil sc_Edge___init__ (fun vs H Q E h => ?_) (fun cdv A outer s H vs Q E hr h => ⟨_, (pss_cons (ps_fld (pv 0) (pv 1) rfl)
    (pss_cons (ps_fld (pv 0) (pv 2) rfl)
    (pss_cons (ps_fld (pv 0) (pv 3) rfl)
    (pss_one (ps_fld (pv 0) (pv 4) rfl))))), ?_⟩)
  · obtain ⟨p, dx, s, rfl, _⟩ := h
    rfl
  · obtain ⟨p, dx, e, rfl, hp, k⟩ := h
    have e1 : putF "where" (.int e.wh) (putF "across" (.int (acrossI e.fst)) []) = ([("across", .int (acrossI e.fst)), ("where", .int e.wh)] : List (Str × V)) := by
      show putF "where" (.int e.wh) [("across", .int (acrossI e.fst))] = _
      rw [put_past (by decide +kernel)]
      rfl
    have e2 : putF "low" (.int e.lo) (putF "where" (.int e.wh) (putF "across" (.int (acrossI e.fst)) [])) = ([("across", .int (acrossI e.fst)), ("where", .int e.wh), ("low", .int e.lo)] : List (Str × V)) := by
      rw [e1, put_past (by decide +kernel), put_past (by decide +kernel)]
      rfl
    refine ⟨_, rfl, _, rfl, p, cE, dx, [], rfl, hp, T.clE, T.aE.1, (by show 0 < 1000; decide), ?_⟩
    refine ⟨_, rfl, _, rfl, p, cE, dx, _, rfl, upd_same, T.clE, T.aE.2.1, (by show 1 < 1000; decide), ?_⟩
    refine ⟨_, rfl, _, rfl, p, cE, dx, _, rfl, upd_same, T.clE, T.aE.2.2.1, ?_, ?_⟩
    · show (putF "where" (.int e.wh) (putF "across" (.int (acrossI e.fst)) [])).length < 1000
      rw [e1]
      show 2 < 1000
      decide
    · refine ⟨_, rfl, _, rfl, p, cE, dx, _, rfl, upd_same, T.clE, T.aE.2.2.2, ?_, ?_⟩
      · show (putF "low" (.int e.lo) (putF "where" (.int e.wh) (putF "across" (.int (acrossI e.fst)) []))).length < 1000
        rw [e2]
        show 3 < 1000
        decide
      · exact k _ ⟨dx, Eq.trans upd_same (congrArg (fun q => some (HO.ins cE dx q)) (ed_put e))⟩ fun b o e hb => by
          rw [upd_ne hb, upd_ne hb, upd_ne hb, upd_ne hb]
          exact e
theorem t_Scale_place (D : MethOk K cS "place" "Scale.place" s_Scale_place ["self", "coordinate"]) (T : Tx K mg cS cE cL cB) : C8.Met P w K mg base 1 cS "place" (spPlace cS) [] := by
  obtain ⟨f, fd, M, F, b⟩ := D.ex
  refine C8.met0 T.clS M F b sc_Scale_place (fun vs H Q E h => ?_) (fun cdv A outer s H vs Q E hr h => ⟨_, (pss_one (ps_ret (pe_op op_add (pe_fld (pv 0) rfl) (pe_op op_mul (pe_fld (pv 0) rfl) (pv 1))))), ?_⟩)
  · obtain ⟨a, s, c, rfl, _⟩ := h
    rfl
  · obtain ⟨a, s, c, rfl, ⟨dx, ha⟩, sg, q⟩ := h
    exact ⟨_, rfl, a, cS, dx, _, _, rfl, ha, T.clS, T.aS.2.1, sc_lk2 s, _, rfl, a, cS, dx, _, _, rfl, ha, T.clS, T.aS.2.2, sc_lk3 s, _, rfl, _, _, rfl, rfl, .inl (small64 sg), _, _, rfl, rfl, q⟩
theorem c_coordinate_across (D : DefOk K mg "coordinate_across" s_coordinate_across ["scales", "face"]) (T : Tx K mg cS cE cL cB) (c_axis_of : C8.Cal P w K mg base 1 "axis_of" spAxis []) : C8.Cal P w K mg base 2 "coordinate_across" (spAcross cS) [] := by
  obtain ⟨f, fd, F, b⟩ := D.ex
  refine C8.cal0 F b .nil sc_coordinate_across (fun vs H Q E h => ?_) (fun cdv A outer s H vs Q E hr h => ⟨_, (pss_cons (ps_if (pt_cmpR op_eq (pe_fld (pe_ix ix_list (pv 0) pe_int (fun _ _ => rfl)) rfl) (C8.pe_c c_axis_of hr (by omega) rfl (pa_cons (pv 1) pa_nil)) (nomark _))
      (pss_one (ps_ret pe_int))
      pss_nil)
    (pss_one (ps_ret pe_int))), ?_⟩)
  · obtain ⟨a, s, g, rfl, _⟩ := h
    rfl
  · obtain ⟨a, s, g, rfl, ⟨a1, a2, hA, ⟨dx, h1⟩, _⟩, q⟩ := h
    refine ⟨_, rfl, _, _, _, _, rfl, rfl, SqL.of hA, rfl, a1, cS, dx, _, _, rfl, h1, T.clS, T.aS.1, sc_lk1 s.1, _, rfl, g, rfl, rfl, _, rfl, ?_⟩
    refine ite2 (fun c => ?_) (fun c => ?_)
    · have e : axCross s g = true := by
        unfold axCross
        have := Int.ofNat.inj (V.int.inj (of_decide_eq_true c))
        exact beq_iff_eq.mpr this
      rw [e] at q
      exact q
    · have e : axCross s g = false := by
        unfold axCross
        rw [Bool.eq_false_iff]
        intro z
        have z := beq_iff_eq.mp z
        exact c (decide_eq_true (by rw [z]))
      rw [e] at q
      exact q
theorem c_first_scales (D : DefOk K mg "first_scales" s_first_scales ["face"]) (T : Tx K mg cS cE cL cB) (c_axis_of : C8.Cal P w K mg base 1 "axis_of" spAxis []) (m_Scale : C8.Mak P w K mg base 1 "Scale" cS (spScI cS) []) : C8.Cal P w K mg base 3 "first_scales" (spFirst cS) [] := by
  obtain ⟨f, fd, F, b⟩ := D.ex
  refine C8.cal0 F b .nil sc_first_scales (fun vs H Q E h => ?_) (fun cdv A outer s H vs Q E hr h => ⟨_, (pss_one (ps_ret (pe_lc (own := [("axis", 1)]) (g := (gName 1)) rfl sc_first_scales.nd (pi_range1 rfl T.n_range (pa_cons (pe_globI rfl T.g_AXES) pa_nil)) (blkOk_by (own := [("axis", 1)]) (N := N_first_scales) (sc := (C8.fnScope s_first_scales)) (by decide +kernel)) (fun _ _ _ _ _ => pg_name (i := 1) sc_first_scales.nd rfl (Or.inl rfl)) (fun _ _ _ _ _ => (pts_one (pt_cmpR op_ne (pv 1) (C8.pe_c c_axis_of hr (by omega) rfl (pa_cons (pv 0) pa_nil)) (nomark _)))) (fun _ _ _ _ _ => (C8.pe_mk m_Scale hr (by omega) rfl (pa_cons (pv 1) (pa_cons pe_int (pa_cons pe_int pa_nil)))))))), ?_⟩)
  · obtain ⟨f, rfl, _⟩ := h
    rfl
  · obtain ⟨f, rfl, hf, q⟩ := h
    refine ⟨3, rfl, by decide, by decide, fun D hD => lc_range (lo := 0) (n := 3) (fun i H1 => ∃ as, Same H H1 ∧ H1 D = some (.lst (refs as)) ∧ Paired (ScAt cS (wo H1 (allOf H))) as (((List.range i).filter (fun a => a != f / 2)).map fun a => ⟨a, 0, 1⟩)) ⟨[], same_upd (Same.refl _) hD, upd_same, .nil⟩ ?_ ?_⟩
    · rintro i H1 hi ⟨as, s1, hd, inv⟩
      have ei : (0 : Int) + (i : Int) = (i : Int) := by omega
      rw [ei]
      refine ⟨rfl, _, rfl, _, rfl, f, rfl, rfl, _, rfl, ?_⟩
      have ec : (!decide (V.int (i : Int) = nv (f / 2))) = (i != f / 2) := by
        by_cases c : i = f / 2
        · rw [c]
          simp [nv]
        · have c2 : ¬ V.int (i : Int) = nv (f / 2) := fun z => c (Int.ofNat.inj (V.int.inj z))
          rw [decide_eq_false c2]
          simp [c]
      rw [ec]
      refine ite2 (fun c => ?_) (fun c => ?_)
      · refine ⟨_, rfl, fun x dx hx hdx ne => ⟨x, dx, ⟨i, 0, 1⟩, rfl, upd_same, fun H2 at2 keep => ⟨rfl, refs as, ?_, ?_, as ++ [x], ?_, ?_, ?_⟩⟩⟩
        · have s2 : Same H1 H2 := Same.made hx hdx keep
          exact s2 _ _ hd
        · have l1 := inv.length
          rw [List.length_map] at l1
          have l2 := List.length_filter_le (fun a => a != f / 2) (List.range i)
          rw [List.length_range] at l2
          unfold refs
          rw [List.length_map]
          exact Nat.lt_of_le_of_lt (show as.length ≤ 3 by omega) (by decide)
        · have s2 : Same H1 H2 := Same.made hx hdx keep
          exact same_upd (s1.trans s2) hD
        · rw [upd_same]
          unfold refs
          rw [List.map_append]
          rfl
        · have s2 : Same H1 H2 := Same.made hx hdx keep
          have hD2 := s2 _ _ hd
          have at3 : ScAt cS (wo H2 (allOf H)) x ⟨i, 0, 1⟩ := by
            obtain ⟨d, h⟩ := at2
            exact ⟨d, wo_get h (fun z => z (s1.free hx))⟩
          rw [range_succ_filter, if_pos c, List.map_append]
          exact paired_app (Paired.mono (fun _ _ h => ScAt.put hD2 h) (Paired.mono (fun _ _ h => ScAt.same h (wo_same _ s2)) inv)) (.cons (ScAt.put hD2 at3) .nil)
      · refine ⟨as, s1, hd, ?_⟩
        rw [range_succ_filter, if_neg c, List.append_nil]
        exact inv
    · rintro H1 ⟨as, s1, hd, inv⟩
      refine q _ _ s1 hD ?_
      have e : (((List.range 3).filter (fun a => a != f / 2)).map fun a => (⟨a, 0, 1⟩ : Scl)) = [(firstM f).1, (firstM f).2] := by
        have h3 : f / 2 = 0 ∨ f / 2 = 1 ∨ f / 2 = 2 := by omega
        rcases h3 with h | h | h <;> simp [firstM, h, List.range, List.range.loop]
      rw [e] at inv
      cases inv with
      | cons h1 r =>
        cases r with
        | cons h2 r =>
          cases r
          exact ⟨_, _, wo_get hd (fun z => z hD), h1, h2⟩
end
end SF

/-! ## W6 -/
set_option Elab.async false
set_option maxRecDepth 100000
set_option maxHeartbeats 2000000
namespace SF
open PySem PySem.Spec PyProof.Rows L2
abbrev s_spot_of : Stmt := top 22
abbrev N_spot_of : List Str := ["scales", "point", "scale"]
theorem sc_spot_of : FnScope N_spot_of ["scales", "point"] (C8.fnScope s_spot_of) := C8.fnScope_by (by decide +kernel)
abbrev s_goes_through : Stmt := top 23
abbrev N_goes_through : List Str := ["begin", "finish", "edge", "along", "run", "before", "met", "low", "high"]
theorem sc_goes_through : FnScope N_goes_through ["begin", "finish", "edge"] (C8.fnScope s_goes_through) := C8.fnScope_by (by decide +kernel)
theorem lev_le {box : List Nat} (h : ∀ i, Sy73.nth box i ≤ 40) (f : Nat) : 0 ≤ lev box f ∧ lev box f ≤ 40 := by
  unfold lev
  have := h (f / 2)
  rcases Nat.mod_two_eq_zero_or_one f with e | e <;> rw [e] <;> omega
def acP (f : Bool) (a : Int × Int) : Int := if f then a.1 else a.2
def alP (f : Bool) (a : Int × Int) : Int := if f then a.2 else a.1
theorem fst_at {f : Bool} {a : Int × Int} : atI [V.int a.1, V.int a.2] (acrossI f) = some (.int (acP f a)) := by
  cases f <;> rfl
theorem snd_at {f : Bool} {a : Int × Int} : atI [V.int a.1, V.int a.2] (1 - acrossI f) = some (.int (alP f a)) := by
  cases f <;> rfl
theorem through_ac (a b : Int × Int) (e : Edg) : throughM a b e = through1 (acP e.fst a) (acP e.fst b) (alP e.fst a) (alP e.fst b) e.wh e.lo e.hi := by
  rw [throughM_eq]
  cases e.fst <;> rfl
theorem two_at {f : Bool} {a : Addr × Addr} : atI [V.ref a.1, V.ref a.2] (acrossI f) = some (.ref (if f then a.1 else a.2)) := by
  cases f <;> rfl
theorem two_at' {f : Bool} {a : Addr × Addr} : atI [V.ref a.1, V.ref a.2] (1 - acrossI f) = some (.ref (if f then a.2 else a.1)) := by
  cases f <;> rfl
theorem ed_lk1 (s : Edg) : (edF s).lookup ("across" : Str) = some (.int (acrossI s.fst)) := lk_here
theorem ed_lk2 (s : Edg) : (edF s).lookup ("where" : Str) = some (.int s.wh) := (lk_past (by decide +kernel)).trans lk_here
theorem ed_lk3 (s : Edg) : (edF s).lookup ("low" : Str) = some (.int s.lo) := (lk_past (by decide +kernel)).trans ((lk_past (by decide +kernel)).trans lk_here)
theorem ed_lk4 (s : Edg) : (edF s).lookup ("high" : Str) = some (.int s.hi) := (lk_past (by decide +kernel)).trans ((lk_past (by decide +kernel)).trans ((lk_past (by decide +kernel)).trans lk_here))
def pairV (a : Int × Int) : List V := [.int a.1, .int a.2]
def spSpot (K : Frg) (C : Addr) : Sp := fun vs H Q _ => ∃ (a b : Addr) (s : Scl × Scl) (p : List Nat), vs = [.ref a, .ref b] ∧ ScalesAt C H a s ∧ SqL K H b (p.map nv) ∧ p.length = 3 ∧ Sg s.1 ∧ Sg s.2 ∧ s.1.axis < 3 ∧ s.2.axis < 3 ∧
  ∀ (H' : Hp) (q : Addr), Same H H' → H q = none → H' q = some (.lst (pairV (spotM s p))) → Q (.ref q) H'
def Bd (n : Int) (x : Int) : Prop := -n ≤ x ∧ x ≤ n
def spThrough (K : Frg) (C : Addr) : Sp := fun vs H Q _ => ∃ (a b e : Addr) (x y : Int × Int) (ed : Edg), vs = [.ref a, .ref b, .ref e] ∧ SqL K H a (pairV x) ∧ SqL K H b (pairV y) ∧ EdAt C H e ed ∧
  Bd (2 ^ 60) x.1 ∧ Bd (2 ^ 60) x.2 ∧ Bd (2 ^ 60) y.1 ∧ Bd (2 ^ 60) y.2 ∧ Bd (2 ^ 60) ed.lo ∧ Bd (2 ^ 60) ed.hi ∧ Q (.bl (throughM x y ed)) H
theorem minI (x y : Int) : (if y < x then y else x) = min x y := by
  by_cases c : y < x
  · rw [if_pos c]
    omega
  · rw [if_neg c]
    omega
theorem maxI (x y : Int) : (if y > x then y else x) = max x y := by
  by_cases c : y > x
  · rw [if_pos c]
    omega
  · rw [if_neg c]
    omega
section
variable {P : Program} {w : World} {K : Frg} {mg : Str → Option Value} {base : Heap} {cS cE cL cB : Addr}
theorem c_edge_towards (D : DefOk K mg "edge_towards" s_edge_towards ["lengths", "scales", "face"]) (T : Tx K mg cS cE cL cB) (c_coordinate_across : C8.Cal P w K mg base 2 "coordinate_across" (spAcross cS) [])
    (t_Scale_place : C8.Met P w K mg base 1 cS "place" (spPlace cS) []) (c_height_of : C8.Cal P w K mg base 2 "height_of" (spHeight K) []) (m_Edge : C8.Mak P w K mg base 1 "Edge" cE (spEdI cE) []) : C8.Cal P w K mg base 3 "edge_towards" (spEdge K cS cE) [] := by
  obtain ⟨f, fd, F, b⟩ := D.ex
  refine C8.cal0 F b .nil sc_edge_towards (fun vs H Q E h => ?_) (fun cdv A outer s H vs Q E hr h => ⟨_, (pss_cons (ps_set (i := 3) sc_edge_towards.nd rfl (Or.inl rfl) (C8.pe_c c_coordinate_across hr (by omega) rfl (pa_cons (pv 1) (pa_cons (pv 2) pa_nil))))
    (pss_cons (ps_set (i := 4) sc_edge_towards.nd rfl (Or.inl rfl) (pe_ix ix_list (pv 1) (pe_op op_sub pe_int (pv 3)) (fun _ _ => rfl)))
    (pss_cons (ps_set (i := 5) sc_edge_towards.nd rfl (Or.inl rfl) (pe_lst (pa_cons (C8.pe_mt t_Scale_place hr (by omega) (pv 4) (pa_cons pe_int pa_nil)) (pa_cons (C8.pe_mt t_Scale_place hr (by omega) (pv 4) (pa_cons (pe_ix ix_list (pv 0) (pe_fld (pv 4) rfl) (fun _ _ => rfl)) pa_nil)) pa_nil))))
    (pss_one (ps_ret (C8.pe_mk m_Edge hr (by omega) rfl (pa_cons (pv 3) (pa_cons (C8.pe_mt t_Scale_place hr (by omega) (pe_ix ix_list (pv 1) (pv 3) (fun _ _ => rfl)) (pa_cons (C8.pe_c c_height_of hr (by omega) rfl (pa_cons (pv 0) (pa_cons (pv 2) pa_nil))) pa_nil)) (pa_cons (pe_callB (cr_min rfl) (by rfl) T.n_min (by decide +kernel) (pa_cons (pv 5) pa_nil)) (pa_cons (pe_callB (cr_max rfl) (by rfl) T.n_max (by decide +kernel) (pa_cons (pv 5) pa_nil)) pa_nil)))))))))), ?_⟩)
  · obtain ⟨a, b, box, s, g, rfl, _⟩ := h
    rfl
  · obtain ⟨a, b, box, s, g, rfl, hA, lB, ⟨a1, a2, hS, h1, h2⟩, sg1, sg2, x1, x2, g6, q⟩ := h
    refine ⟨_, rfl, _, rfl, b, s, g, rfl, ⟨a1, a2, hS, h1, h2⟩, ?_⟩
    refine ⟨_, rfl, _, rfl, _, _, rfl, rfl, _, _, _, _, rfl, rfl, SqL.of hS, two_at' (a := (a1, a2)), ?_⟩
    have hal : ScAt cS H (if axCross s g then a2 else a1) (if axCross s g then s.2 else s.1) := by cases axCross s g <;> assumption
    have sgal : Sg (if axCross s g then s.2 else s.1) := by cases axCross s g <;> assumption
    have hac : ScAt cS H (if axCross s g then a1 else a2) (if axCross s g then s.1 else s.2) := by cases axCross s g <;> assumption
    have sgac : Sg (if axCross s g then s.1 else s.2) := by cases axCross s g <;> assumption
    have xal : (if axCross s g then s.2 else s.1).axis < 3 := by cases axCross s g <;> assumption
    have eE : edgeM box s g = ⟨axCross s g, (if axCross s g then s.1 else s.2).place (lev box g), min ((if axCross s g then s.2 else s.1).place 0) ((if axCross s g then s.2 else s.1).place (Sy73.nth box (if axCross s g then s.2 else s.1).axis)), max ((if axCross s g then s.2 else s.1).place 0) ((if axCross s g then s.2 else s.1).place (Sy73.nth box (if axCross s g then s.2 else s.1).axis))⟩ := rfl
    generalize (if axCross s g then s.2 else s.1) = al at hal sgal xal eE
    generalize (if axCross s g then s.1 else s.2) = ac at hac sgac eE
    obtain ⟨dx, hal'⟩ := id hal
    refine ⟨_, rfl, _, dx, _, rfl, hal', sc_lk4 _, _, al, 0, rfl, hal, sgal, ?_⟩
    refine ⟨_, rfl, _, dx, _, rfl, hal', sc_lk4 _, _, rfl, _, rfl, _, cS, dx, _, _, rfl, hal', T.clS, T.aS.1, sc_lk1 _, _, _, _, _, rfl, rfl, hA, at_nv (by omega), _, al, _, rfl, hal, sgal, ?_⟩
    refine ⟨(by show 2 ≤ sizeLine; decide), fun l hl => ?_⟩
    have s1 : Same H (upd H l (.lst [.int (al.place 0), .int (al.place (Sy73.nth box al.axis))])) := same_upd (Same.refl _) hl
    refine ⟨_, rfl, _, rfl, _, rfl, _, _, _, _, rfl, rfl, SqL.of (s1 _ _ hS), two_at (a := (a1, a2)), ?_⟩
    have hac1 := hac.same s1
    obtain ⟨dx2, hac'⟩ := id hac1
    refine ⟨_, dx2, _, rfl, hac', sc_lk4 _, _, rfl, _, rfl, a, box, g, rfl, s1.seq hA, by omega, _, ac, _, rfl, hac1, sgac, ?_⟩
    have hmm : ∀ m, (m ∈ [al.place 0, al.place (Sy73.nth box al.axis)]) → (∀ y, y ∈ [al.place 0, al.place (Sy73.nth box al.axis)] → m ≤ y) → m = min (al.place 0) (al.place (Sy73.nth box al.axis)) := by
      intro m hm hle
      have k1 := hle _ (List.mem_cons_self ..)
      have k2 := hle _ (List.mem_cons_of_mem _ (List.mem_cons_self ..))
      rcases List.mem_cons.mp hm with e | e
      · omega
      · have := List.mem_singleton.mp e
        omega
    have hmx : ∀ m, (m ∈ [al.place 0, al.place (Sy73.nth box al.axis)]) → (∀ y, y ∈ [al.place 0, al.place (Sy73.nth box al.axis)] → y ≤ m) → m = max (al.place 0) (al.place (Sy73.nth box al.axis)) := by
      intro m hm hle
      have k1 := hle _ (List.mem_cons_self ..)
      have k2 := hle _ (List.mem_cons_of_mem _ (List.mem_cons_self ..))
      rcases List.mem_cons.mp hm with e | e
      · omega
      · have := List.mem_singleton.mp e
        omega
    refine ⟨_, rfl, l, [al.place 0, al.place (Sy73.nth box al.axis)], rfl, SqL.of upd_same, Nat.succ_pos _, fun m hm hle => ?_⟩
    refine ⟨_, rfl, l, [al.place 0, al.place (Sy73.nth box al.axis)], rfl, SqL.of upd_same, Nat.succ_pos _, fun m2 hm2 hle2 => ?_⟩
    have em := hmm m hm hle
    have em2 := hmx m2 hm2 hle2
    subst em em2
    refine fun x dx3 hx hdx ne => ⟨x, dx3, edgeM box s g, by rw [eE]; rfl, upd_same, fun H' hat keep => ⟨rfl, ?_⟩⟩
    have s3 : Same (upd H l (.lst [.int (al.place 0), .int (al.place (Sy73.nth box al.axis))])) H' := Same.made hx hdx keep
    exact q _ _ (s1.trans s3) (s1.free hx) hat
theorem c_scales_beyond (D : DefOk K mg "scales_beyond" s_scales_beyond ["lengths", "scales", "face", "following"]) (T : Tx K mg cS cE cL cB) (c_coordinate_across : C8.Cal P w K mg base 2 "coordinate_across" (spAcross cS) [])
    (c_axis_of : C8.Cal P w K mg base 1 "axis_of" spAxis []) (c_side_of : C8.Cal P w K mg base 1 "side_of" spSide [])
    (t_Scale_place : C8.Met P w K mg base 1 cS "place" (spPlace cS) []) (c_height_of : C8.Cal P w K mg base 2 "height_of" (spHeight K) []) (m_Scale : C8.Mak P w K mg base 1 "Scale" cS (spScI cS) []) : C8.Cal P w K mg base 3 "scales_beyond" (spBeyond K cS) [] := by
  obtain ⟨f, fd, F, b⟩ := D.ex
  refine C8.cal0 F b .nil sc_scales_beyond (fun vs H Q E h => ?_) (fun cdv A outer s H vs Q E hr h => ⟨_, (pss_cons (ps_set (i := 4) sc_scales_beyond.nd rfl (Or.inl rfl) (C8.pe_c c_coordinate_across hr (by omega) rfl (pa_cons (pv 1) (pa_cons (pv 3) pa_nil))))
    (pss_cons (ps_set (i := 5) sc_scales_beyond.nd rfl (Or.inl rfl) (C8.pe_mt t_Scale_place hr (by omega) (pe_ix ix_list (pv 1) (pv 4) (fun _ _ => rfl)) (pa_cons (C8.pe_c c_height_of hr (by omega) rfl (pa_cons (pv 0) (pa_cons (pv 3) pa_nil))) pa_nil)))
    (pss_cons (ps_set (i := 6) sc_scales_beyond.nd rfl (Or.inl rfl) (pe_op op_mul (pe_fld (pe_ix ix_list (pv 1) (pv 4) (fun _ _ => rfl)) rfl) (C8.pe_c c_side_of hr (by omega) rfl (pa_cons (pv 3) pa_nil))))
    (pss_cons (ps_set (i := 7) sc_scales_beyond.nd rfl (Or.inl rfl) (pe_op op_mul (pe_un un_neg (pv 6)) (C8.pe_c c_side_of hr (by omega) rfl (pa_cons (pv 2) pa_nil))))
    (pss_cons (ps_set (i := 8) sc_scales_beyond.nd rfl (Or.inl rfl) (pe_callTy call_list_of (by rfl) T.n_list (by decide +kernel) (pa_cons (pv 1) pa_nil)))
    (pss_cons (ps_asg (C8.pe_mk m_Scale hr (by omega) rfl (pa_cons (C8.pe_c c_axis_of hr (by omega) rfl (pa_cons (pv 2) pa_nil)) (pa_cons (pe_op op_sub (pv 5) (pe_op op_mul (pv 7) (C8.pe_c c_height_of hr (by omega) rfl (pa_cons (pv 0) (pa_cons (pv 2) pa_nil))))) (pa_cons (pv 7) pa_nil)))) (pg_sub (pv 8) (pv 4) set_list))
    (pss_one (ps_ret (pv 8))))))))), ?_⟩)
  · obtain ⟨A, a, b, box, s, f, g, _, rfl, _⟩ := h
    rfl
  · obtain ⟨A, a, b, box, s, f, g, oA, rfl, hA, lB, ⟨a1, a2, hSw, h1w, h2w⟩, sg1, sg2, f6, g6, q⟩ := h
    have hS := wo_le _ _ _ _ hSw
    have h1 := h1w.same (wo_le _ _)
    have h2 := h2w.same (wo_le _ _)
    refine ⟨_, rfl, _, rfl, b, s, g, rfl, ⟨a1, a2, hS, h1, h2⟩, ?_⟩
    have hac : ScAt cS H (if axCross s g then a1 else a2) (if axCross s g then s.1 else s.2) := by cases axCross s g <;> assumption
    have sgac : Sg (if axCross s g then s.1 else s.2) := by cases axCross s g <;> assumption
    have eB : beyondM box s f g = (if axCross s g then ((⟨f / 2, (if axCross s g then s.1 else s.2).place (lev box g) - (-((if axCross s g then s.1 else s.2).sign * sideI g) * sideI f) * lev box f, -((if axCross s g then s.1 else s.2).sign * sideI g) * sideI f⟩ : Scl), s.2)
        else (s.1, (⟨f / 2, (if axCross s g then s.1 else s.2).place (lev box g) - (-((if axCross s g then s.1 else s.2).sign * sideI g) * sideI f) * lev box f, -((if axCross s g then s.1 else s.2).sign * sideI g) * sideI f⟩ : Scl))) := rfl
    have at0 := two_at (f := axCross s g) (a := (a1, a2))
    generalize (if axCross s g then s.1 else s.2) = ac at hac sgac eB
    generalize hnew : (⟨f / 2, ac.place (lev box g) - (-(ac.sign * sideI g) * sideI f) * lev box f, -(ac.sign * sideI g) * sideI f⟩ : Scl) = n at eB
    obtain ⟨dx, hac'⟩ := id hac
    refine ⟨_, rfl, _, rfl, _, _, _, _, rfl, rfl, SqL.of hS, at0, _, dx, _, rfl, hac', sc_lk4 _, _, rfl, _, rfl, a, box, g, rfl, hA, by omega, _, ac, _, rfl, hac, sgac, ?_⟩
    refine ⟨_, rfl, _, rfl, _, _, _, _, rfl, rfl, SqL.of hS, at0, _, cS, dx, _, _, rfl, hac', T.clS, T.aS.2.2, sc_lk3 _, _, rfl, g, rfl, _, _, rfl, rfl, .inl (small64 sgac), ?_⟩
    have sdg := side_abs g
    have sdf := side_abs f
    have sg1' : ac.sign * sideI g = 1 ∨ ac.sign * sideI g = -1 := by
      rcases sgac with e | e <;> rcases sdg with e2 | e2 <;> rw [e, e2] <;> simp
    have sg2' : -(ac.sign * sideI g) * sideI f = 1 ∨ -(ac.sign * sideI g) * sideI f = -1 := by
      rcases sg1' with e | e <;> rcases sdf with e2 | e2 <;> rw [e, e2] <;> simp
    refine ⟨_, rfl, _, rfl, _, rfl, f, rfl, _, _, rfl, rfl, .inr (small64 sdf), ?_⟩
    refine ⟨_, rfl, b, _, rfl, .inl (SqL.of hS), fun l hl => ?_⟩
    have s1 : Same H (upd H l (.lst [.ref a1, .ref a2])) := same_upd (Same.refl _) hl
    refine ⟨_, rfl, f, rfl, _, rfl, _, rfl, _, rfl, _, rfl, a, box, f, rfl, s1.seq hA, by omega, _, _, rfl, rfl, .inl (small64 sg2'), _, _, rfl, rfl, _, rfl, ?_⟩
    refine fun x dx3 hx hdx ne => ⟨x, dx3, n, by rw [← hnew]; rfl, upd_same, fun H2 hat keep => ⟨rfl, ?_⟩⟩
    have s3 : Same (upd H l (.lst [.ref a1, .ref a2])) H2 := Same.made hx hdx keep
    have s4 := s1.trans s3
    have hl2 := s3 _ _ (upd_same (H := H) (a := l) (o := .lst [.ref a1, .ref a2]))
    have hatw : ScAt cS (wo H2 A) x n := by
      obtain ⟨d, h⟩ := hat
      exact ⟨d, wo_get h (oA.no (s1.free hx))⟩
    have hl' : H l = none := hl
    cases c : axCross s g with
    | true =>
      rw [c] at eB
      refine ⟨_, rfl, _, rfl, l, _, _, 0, rfl, rfl, hl2, rfl, _, rfl, q _ l (same_upd s4 hl') hl' ?_⟩
      rw [eB]
      exact ⟨x, a2, wo_get upd_same (oA.no hl'), ScAt.put hl2 hatw, ScAt.put hl2 (h2w.same (wo_same A s4))⟩
    | false =>
      rw [c] at eB
      refine ⟨_, rfl, _, rfl, l, _, _, 1, rfl, rfl, hl2, rfl, _, rfl, q _ l (same_upd s4 hl') hl' ?_⟩
      rw [eB]
      exact ⟨a1, x, wo_get upd_same (oA.no hl'), ScAt.put hl2 (h1w.same (wo_same A s4)), ScAt.put hl2 hatw⟩
theorem c_spot_of (D : DefOk K mg "spot_of" s_spot_of ["scales", "point"]) (T : Tx K mg cS cE cL cB) (t_Scale_place : C8.Met P w K mg base 1 cS "place" (spPlace cS) []) : C8.Cal P w K mg base 2 "spot_of" (spSpot K cS) [] := by
  obtain ⟨f, fd, F, b⟩ := D.ex
  refine C8.cal0 F b .nil sc_spot_of (fun vs H Q E h => ?_) (fun cdv A outer s H vs Q E hr h => ⟨_, (pss_one (ps_ret (pe_lc (own := [("scale", 2)]) (g := (gName 2)) rfl sc_spot_of.nd (pi_list (pv 0)) (blkOk_by (own := [("scale", 2)]) (N := N_spot_of) (sc := (C8.fnScope s_spot_of)) (by decide +kernel)) (fun _ _ _ _ _ => pg_name (i := 2) sc_spot_of.nd rfl (Or.inl rfl)) (fun _ _ _ _ _ => pts_nil) (fun _ _ _ _ _ => (C8.pe_mt t_Scale_place hr (by omega) (pv 2) (pa_cons (pe_ix (ix_listK K) (pv 1) (pe_fldK K (pv 2) rfl) (fun _ _ => rfl)) pa_nil)))))), ?_⟩)
  · obtain ⟨a, b, s, p, rfl, _⟩ := h
    rfl
  · obtain ⟨a, b, s, p, rfl, ⟨a1, a2, hS, h1, h2⟩, hP, l3, sg1, sg2, x1, x2, q⟩ := h
    refine ⟨_, rfl, a, rfl, ⟨_, SqL.of hS⟩, fun D hD => lc_list (K := K) (a := a) (xs := [.ref a1, .ref a2]) (fun i H1 => Same H H1 ∧ H1 D = some (.lst ((pairV (spotM s p)).take i))) ⟨same_upd (Same.refl _) hD, upd_same⟩ (fun i H1 _ h => h.1.seq (SqL.of hS)) ?_ ?_⟩
    · rintro i v H1 hi ⟨s1, hd⟩
      obtain ⟨ai, si, hs, sg, xx, rfl, hi2, hlt⟩ : ∃ (ai : Addr) (si : Scl), ScAt cS H ai si ∧ Sg si ∧ si.axis < 3 ∧ v = .ref ai ∧ (pairV (spotM s p))[i]? = some (.int (si.place (Sy73.nth p si.axis))) ∧ i < 2 := by
        match i, hi with
        | 0, hi =>
          cases hi
          exact ⟨a1, s.1, h1, sg1, x1, rfl, rfl, by decide⟩
        | 1, hi =>
          cases hi
          exact ⟨a2, s.2, h2, sg2, x2, rfl, rfl, by decide⟩
        | i + 2, hi => simp at hi
      have hs1 := hs.same s1
      obtain ⟨dx, hs'⟩ := id hs1
      refine ⟨rfl, _, rfl, ai, dx, _, rfl, hs', sc_lk4 _, _, rfl, _, rfl, ai, cS, dx, _, _, rfl, hs', T.clS, T.aS.1, sc_lk1 _, _, _, _, _, rfl, rfl, s1.seq hP, at_nv (by omega), ai, si, _, rfl, hs1, sg, _, hd, ?_, same_upd s1 hD, ?_⟩
      · refine small1000 ?_
        rw [List.length_take]
        show min i 2 ≤ 1000
        omega
      · rw [upd_same, take_snoc hi2]
        rfl
    · rintro H1 ⟨s1, hd⟩
      exact q _ _ s1 hD hd
theorem c_goes_through (D : DefOk K mg "goes_through" s_goes_through ["begin", "finish", "edge"]) (T : Tx K mg cS cE cL cB) : C8.Cal P w K mg base 1 "goes_through" (spThrough K cE) [] := by
  obtain ⟨f, fd, F, b⟩ := D.ex
  refine C8.cal0 F b .nil sc_goes_through (fun vs H Q E h => ?_) (fun cdv A outer s H vs Q E hr h => ⟨_, (pss_cons (ps_set (i := 3) sc_goes_through.nd rfl (Or.inl rfl) (pe_op op_sub pe_int (pe_fld (pv 2) rfl)))
    (pss_cons (ps_set (i := 4) sc_goes_through.nd rfl (Or.inl rfl) (pe_op op_sub (pe_ix ix_list (pv 1) (pe_fld (pv 2) rfl) (fun _ _ => rfl)) (pe_ix ix_list (pv 0) (pe_fld (pv 2) rfl) (fun _ _ => rfl))))
    (pss_cons (ps_set (i := 5) sc_goes_through.nd rfl (Or.inl rfl) (pe_op op_sub (pe_fld (pv 2) rfl) (pe_ix ix_list (pv 0) (pe_fld (pv 2) rfl) (fun _ _ => rfl))))
    (pss_cons (ps_if (pt_cmpR op_eq (pv 4) pe_int (nomark _))
      (pss_cons (ps_set (i := 7) sc_goes_through.nd rfl (Or.inl rfl) (pe_callB (call_min2 rfl) (by rfl) T.n_min (by decide +kernel) (pa_cons (pe_ix ix_list (pv 0) (pv 3) (fun _ _ => rfl)) (pa_cons (pe_ix ix_list (pv 1) (pv 3) (fun _ _ => rfl)) pa_nil))))
    (pss_cons (ps_set (i := 8) sc_goes_through.nd rfl (Or.inl rfl) (pe_callB (call_max2 rfl) (by rfl) T.n_max (by decide +kernel) (pa_cons (pe_ix ix_list (pv 0) (pv 3) (fun _ _ => rfl)) (pa_cons (pe_ix ix_list (pv 1) (pv 3) (fun _ _ => rfl)) pa_nil))))
    (pss_one (ps_ret (pe_and (pe_cmpR op_eq (pv 5) pe_int (nomark _)) (pe_and (pe_cmpR op_le (pv 7) (pe_fld (pv 2) rfl) (nomark _)) (pe_one (pe_cmpR op_le (pe_fld (pv 2) rfl) (pv 8) (nomark _)))))))))
      pss_nil)
    (pss_cons (ps_if (pt_cmpR op_lt (pv 4) pe_int (nomark _))
      (pss_cons (ps_set (i := 4) sc_goes_through.nd rfl (Or.inl rfl) (pe_un un_neg (pv 4)))
    (pss_one (ps_set (i := 5) sc_goes_through.nd rfl (Or.inl rfl) (pe_un un_neg (pv 5)))))
      pss_nil)
    (pss_cons (ps_if (PW.pt (pw_or (pt_cmpR op_lt (pv 5) pe_int (nomark _)) (pw_or1 (pt_cmpR op_gt (pv 5) (pv 4) (nomark _)))))
      (pss_one (ps_ret pe_bl))
      pss_nil)
    (pss_cons (ps_set (i := 6) sc_goes_through.nd rfl (Or.inl rfl) (pe_op op_add (pe_op op_mul (pe_ix ix_list (pv 0) (pv 3) (fun _ _ => rfl)) (pv 4)) (pe_op op_mul (pe_op op_sub (pe_ix ix_list (pv 1) (pv 3) (fun _ _ => rfl)) (pe_ix ix_list (pv 0) (pv 3) (fun _ _ => rfl))) (pv 5))))
    (pss_one (ps_ret (pe_and (pe_cmpR op_le (pe_op op_mul (pe_fld (pv 2) rfl) (pv 4)) (pv 6) (nomark _)) (pe_one (pe_cmpR op_le (pv 6) (pe_op op_mul (pe_fld (pv 2) rfl) (pv 4)) (nomark _))))))))))))), ?_⟩)
  · obtain ⟨a, b, e, x, y, ed, rfl, _⟩ := h
    rfl
  · obtain ⟨a, b, e, x, y, ed, rfl, hA, hB, ⟨dx, hE⟩, b1, b2, b3, b4, b5, b6, q⟩ := h
    have xx := fst_at (f := ed.fst) (a := x)
    have yx := fst_at (f := ed.fst) (a := y)
    have xl := snd_at (f := ed.fst) (a := x)
    have yl := snd_at (f := ed.fst) (a := y)
    rw [through_ac] at q
    have k1 : Bd (2 ^ 60) (acP ed.fst x) := by cases ed.fst <;> assumption
    have k2 : Bd (2 ^ 60) (acP ed.fst y) := by cases ed.fst <;> assumption
    have k3 : Bd (2 ^ 60) (alP ed.fst x) := by cases ed.fst <;> assumption
    have k4 : Bd (2 ^ 60) (alP ed.fst y) := by cases ed.fst <;> assumption
    generalize acP ed.fst x = xa at xx q k1
    generalize acP ed.fst y = ya at yx q k2
    generalize alP ed.fst x = xb at xl q k3
    generalize alP ed.fst y = yb at yl q k4
    unfold Bd at k1 k2 k3 k4 b5 b6
    have l1 := ed_lk1 ed
    have l2 := ed_lk2 ed
    have l3 := ed_lk3 ed
    have l4 := ed_lk4 ed
    generalize acrossI ed.fst = ac at xx yx xl yl l1
    -- along, run, before
    refine ⟨_, rfl, _, cE, dx, _, _, rfl, hE, T.clE, T.aE.1, l1, _, _, rfl, rfl, ?_⟩
    refine ⟨_, rfl, _, rfl, _, cE, dx, _, _, rfl, hE, T.clE, T.aE.1, l1, _, _, _, _, rfl, rfl, hB, yx, _, rfl, _, rfl, _, cE, dx, _, _, rfl, hE, T.clE, T.aE.1, l1, _, _, _, _, rfl, rfl, hA, xx, _, _, rfl, rfl, ?_⟩
    refine ⟨_, rfl, _, cE, dx, _, _, rfl, hE, T.clE, T.aE.2.1, l2, _, rfl, _, rfl, _, cE, dx, _, _, rfl, hE, T.clE, T.aE.1, l1, _, _, _, _, rfl, rfl, hA, xx, _, _, rfl, rfl, ?_⟩
    refine ⟨_, rfl, rfl, _, rfl, ?_⟩
    refine ite2 (fun c => ?_) (fun c => ?_)
    · have c := V.int.inj (of_decide_eq_true c)
      refine ⟨_, rfl, _, rfl, _, _, _, _, rfl, rfl, hA, xl, _, rfl, _, rfl, _, _, _, _, rfl, rfl, hB, yl, _, _, rfl, ?_⟩
      refine ⟨_, rfl, _, rfl, _, _, _, _, rfl, rfl, hA, xl, _, rfl, _, rfl, _, _, _, _, rfl, rfl, hB, yl, _, _, rfl, ?_⟩
      rw [minI, maxI]
      have eT : through1 xa ya xb yb ed.wh ed.lo ed.hi = (decide (ed.wh - xa = 0) && (decide (min xb yb ≤ ed.hi) && decide (ed.lo ≤ max xb yb))) := by
        unfold through1
        dsimp only
        rw [if_pos c]
      refine ⟨_, rfl, rfl, _, rfl, ?_⟩
      refine ite2 (fun c2 => ?_) (fun c2 => ?_)
      · have c2 := V.int.inj (of_decide_eq_true c2)
        refine ⟨_, rfl, _, rfl, _, cE, dx, _, _, rfl, hE, T.clE, T.aE.2.2.2, l4, _, _, rfl, rfl, _, rfl, ?_⟩
        refine ite2 (fun c3 => ?_) (fun c3 => ?_)
        · refine ⟨_, rfl, _, cE, dx, _, _, rfl, hE, T.clE, T.aE.2.2.1, l3, _, rfl, _, _, rfl, rfl, ?_⟩
          rw [eT, decide_eq_true c2, c3] at q
          exact q
        · have c3 : decide (min xb yb ≤ ed.hi) = false := by simpa using c3
          rw [eT, decide_eq_true c2, c3] at q
          exact q
      · have c2 : ¬ (ed.wh - xa = 0) := fun z => c2 (decide_eq_true (congrArg V.int z))
        rw [eT, decide_eq_false c2] at q
        exact q
    · have c : ¬ (ya - xa = 0) := fun z => c (decide_eq_true (congrArg V.int z))
      have eT0 : through1 xa ya xb yb ed.wh ed.lo ed.hi = (if ((if ya - xa < 0 then -(ed.wh - xa) else ed.wh - xa) < 0 ∨ (if ya - xa < 0 then -(ya - xa) else ya - xa) < (if ya - xa < 0 then -(ed.wh - xa) else ed.wh - xa)) then false
          else (decide (ed.lo * (if ya - xa < 0 then -(ya - xa) else ya - xa) ≤ xb * (if ya - xa < 0 then -(ya - xa) else ya - xa) + (yb - xb) * (if ya - xa < 0 then -(ed.wh - xa) else ed.wh - xa)) && decide (xb * (if ya - xa < 0 then -(ya - xa) else ya - xa) + (yb - xb) * (if ya - xa < 0 then -(ed.wh - xa) else ed.wh - xa) ≤ ed.hi * (if ya - xa < 0 then -(ya - xa) else ya - xa)))) := by
        unfold through1
        dsimp only
        rw [if_neg c]
      refine ⟨_, rfl, _, _, rfl, rfl, _, rfl, ?_⟩
      refine ite2 (fun n => ?_) (fun n => ?_)
      · have n := of_decide_eq_true n
        have eT := eT0
        simp only [if_pos n] at eT
        refine ⟨_, rfl, _, rfl, _, rfl, _, rfl, ?_⟩
        refine ⟨_, rfl, _, _, rfl, rfl, _, rfl, ?_⟩
        have run64 : -(2 ^ 64) < -(ya - xa) ∧ -(ya - xa) < 2 ^ 64 := by constructor <;> omega
        refine ite2 (fun d => ?_) (fun d => ?_)
        · have d := of_decide_eq_true d
          rw [if_pos (.inl d)] at eT
          rw [eT] at q
          exact iteT q
        · have d : ¬ (-(ed.wh - xa) < 0) := fun z => d (decide_eq_true z)
          refine ⟨_, rfl, _, rfl, _, _, rfl, rfl, _, rfl, ?_⟩
          refine ite2 (fun d2 => ?_) (fun d2 => ?_)
          · have d2 := of_decide_eq_true d2
            rw [if_pos (.inr d2)] at eT
            rw [eT] at q
            exact q
          · have d2 : ¬ (-(ya - xa) < -(ed.wh - xa)) := fun z => d2 (decide_eq_true z)
            rw [if_neg (fun z => z.elim d d2)] at eT
            refine ⟨_, rfl, _, rfl, _, _, _, _, rfl, rfl, hA, xl, _, rfl, _, _, rfl, rfl, .inr run64, ?_⟩
            refine ⟨_, rfl, _, rfl, _, _, _, _, rfl, rfl, hB, yl, _, rfl, _, rfl, _, _, _, _, rfl, rfl, hA, xl, _, _, rfl, rfl, _, rfl, _, _, rfl, rfl, .inl (by constructor <;> omega), _, _, rfl, rfl, ?_⟩
            refine ⟨_, rfl, _, cE, dx, _, _, rfl, hE, T.clE, T.aE.2.2.1, l3, _, rfl, _, _, rfl, rfl, .inr run64, _, rfl, _, _, rfl, rfl, _, rfl, ?_⟩
            refine ite2 (fun d3 => ?_) (fun d3 => ?_)
            · refine ⟨_, rfl, _, rfl, _, cE, dx, _, _, rfl, hE, T.clE, T.aE.2.2.2, l4, _, rfl, _, _, rfl, rfl, .inr run64, _, _, rfl, rfl, ?_⟩
              rw [eT, d3] at q
              exact q
            · have d3 : decide (ed.lo * -(ya - xa) ≤ xb * -(ya - xa) + (yb - xb) * -(ed.wh - xa)) = false := by simpa using d3
              rw [eT, d3] at q
              exact q
      · have n : ¬ (ya - xa < 0) := fun z => n (decide_eq_true z)
        have eT := eT0
        simp only [if_neg n] at eT
        refine ⟨_, rfl, _, _, rfl, rfl, _, rfl, ?_⟩
        have run64 : -(2 ^ 64) < (ya - xa) ∧ (ya - xa) < 2 ^ 64 := by constructor <;> omega
        refine ite2 (fun d => ?_) (fun d => ?_)
        · have d := of_decide_eq_true d
          rw [if_pos (.inl d)] at eT
          rw [eT] at q
          exact iteT q
        · have d : ¬ ((ed.wh - xa) < 0) := fun z => d (decide_eq_true z)
          refine ⟨_, rfl, _, rfl, _, _, rfl, rfl, _, rfl, ?_⟩
          refine ite2 (fun d2 => ?_) (fun d2 => ?_)
          · have d2 := of_decide_eq_true d2
            rw [if_pos (.inr d2)] at eT
            rw [eT] at q
            exact q
          · have d2 : ¬ ((ya - xa) < (ed.wh - xa)) := fun z => d2 (decide_eq_true z)
            rw [if_neg (fun z => z.elim d d2)] at eT
            refine ⟨_, rfl, _, rfl, _, _, _, _, rfl, rfl, hA, xl, _, rfl, _, _, rfl, rfl, .inr run64, ?_⟩
            refine ⟨_, rfl, _, rfl, _, _, _, _, rfl, rfl, hB, yl, _, rfl, _, rfl, _, _, _, _, rfl, rfl, hA, xl, _, _, rfl, rfl, _, rfl, _, _, rfl, rfl, .inl (by constructor <;> omega), _, _, rfl, rfl, ?_⟩
            refine ⟨_, rfl, _, cE, dx, _, _, rfl, hE, T.clE, T.aE.2.2.1, l3, _, rfl, _, _, rfl, rfl, .inr run64, _, rfl, _, _, rfl, rfl, _, rfl, ?_⟩
            refine ite2 (fun d3 => ?_) (fun d3 => ?_)
            · refine ⟨_, rfl, _, rfl, _, cE, dx, _, _, rfl, hE, T.clE, T.aE.2.2.2, l4, _, rfl, _, _, rfl, rfl, .inr run64, _, _, rfl, rfl, ?_⟩
              rw [eT, d3] at q
              exact q
            · have d3 : decide (ed.lo * (ya - xa) ≤ xb * (ya - xa) + (yb - xb) * (ed.wh - xa)) = false := by simpa using d3
              rw [eT, d3] at q
              exact q
end
end SF

/-! ## W7 -/
set_option Elab.async false
set_option maxRecDepth 100000
set_option maxHeartbeats 2000000
namespace SF
open PySem PySem.Spec PyProof.Rows L2
abbrev s_LaidRow___init__ : Stmt := inC (top 5) 0
abbrev N_LaidRow___init__ : List Str := ["self", "row", "first", "last", "edges"]
theorem sc_LaidRow___init__ : FnScope N_LaidRow___init__ ["self", "row", "first", "last", "edges"] (C8.fnScope s_LaidRow___init__) := C8.fnScope_by (by decide +kernel)
abbrev s_laid_alone : Stmt := top 17
abbrev N_laid_alone : List Str := ["face", "scales"]
theorem sc_laid_alone : FnScope N_laid_alone ["face"] (C8.fnScope s_laid_alone) := C8.fnScope_by (by decide +kernel)
abbrev s_laid_on : Stmt := top 18
abbrev N_laid_on : List Str := ["lengths", "laid", "face", "edge", "scales"]
theorem sc_laid_on : FnScope N_laid_on ["lengths", "laid", "face"] (C8.fnScope s_laid_on) := C8.fnScope_by (by decide +kernel)
abbrev s_lay : Stmt := top 19
abbrev N_lay : List Str := ["lengths", "row", "laid", "face"]
theorem sc_lay : FnScope N_lay ["lengths", "row"] (C8.fnScope s_lay) := C8.fnScope_by (by decide +kernel)
abbrev s_laid_beginning : Stmt := top 20
abbrev N_laid_beginning : List Str := ["lengths", "laid", "found", "face"]
theorem sc_laid_beginning : FnScope N_laid_beginning ["lengths", "laid"] (C8.fnScope s_laid_beginning) := C8.fnScope_by (by decide +kernel)
abbrev s_laid_from : Stmt := top 21
abbrev N_laid_from : List Str := ["lengths", "faces", "found", "face"]
theorem sc_laid_from : FnScope N_laid_from ["lengths", "faces"] (C8.fnScope s_laid_from) := C8.fnScope_by (by decide +kernel)
structure Good (n : Int) (s : Scl × Scl) : Prop where
  s1 : Sg s.1
  s2 : Sg s.2
  x1 : s.1.axis < 3
  x2 : s.2.axis < 3
  b1 : Bd n s.1.start
  b2 : Bd n s.2.start
theorem good_first (f : Nat) : Good 0 (firstM f) := by
  unfold firstM
  split
  · exact ⟨.inl rfl, .inl rfl, by decide, by decide, ⟨by decide, by decide⟩, ⟨by decide, by decide⟩⟩
  · split
    · exact ⟨.inl rfl, .inl rfl, by decide, by decide, ⟨by decide, by decide⟩, ⟨by decide, by decide⟩⟩
    · exact ⟨.inl rfl, .inl rfl, by decide, by decide, ⟨by decide, by decide⟩, ⟨by decide, by decide⟩⟩
theorem place_bd {s : Scl} {n c m : Int} (h : Sg s) (b : Bd n s.start) (c0 : 0 ≤ c) (c1 : c ≤ m) : Bd (n + m) (s.place c) := by
  unfold Bd at *
  unfold Scl.place
  rcases h with e | e <;> rw [e] <;> constructor <;> omega
theorem good_beyond {box : List Nat} {n : Int} {s : Scl × Scl} {f g : Nat} (hb : ∀ i, Sy73.nth box i ≤ 40) (G : Good n s) (hf : f < 6) : Good (n + 80) (beyondM box s f g) := by
  have lf := lev_le hb f
  have lg := lev_le hb g
  have sdg := side_abs g
  have sdf := side_abs f
  have one : ∀ ac : Scl, Sg ac → Bd n ac.start → (-(ac.sign * sideI g) * sideI f = 1 ∨ -(ac.sign * sideI g) * sideI f = -1) ∧ Bd (n + 80) (ac.place (lev box g) - -(ac.sign * sideI g) * sideI f * lev box f) := by
    intro ac sg bd
    have p := place_bd sg bd lg.1 lg.2
    have h1 : ac.sign * sideI g = 1 ∨ ac.sign * sideI g = -1 := by
      rcases sg with e | e <;> rcases sdg with e2 | e2 <;> rw [e, e2] <;> simp
    have h2 : -(ac.sign * sideI g) * sideI f = 1 ∨ -(ac.sign * sideI g) * sideI f = -1 := by
      rcases h1 with e | e <;> rcases sdf with e2 | e2 <;> rw [e, e2] <;> simp
    refine ⟨h2, ?_⟩
    unfold Bd at *
    rcases h2 with e | e <;> rw [e] <;> constructor <;> omega
  have up : ∀ x, Bd n x → Bd (n + 80) x := fun x h => by
    unfold Bd at *
    constructor <;> omega
  unfold beyondM
  cases axCross s g with
  | true =>
    have o := one s.1 G.s1 G.b1
    exact ⟨o.1, G.s2, (by show f / 2 < 3; omega), G.x2, o.2, up _ G.b2⟩
  | false =>
    have o := one s.2 G.s2 G.b2
    exact ⟨G.s1, o.1, G.x1, (by show f / 2 < 3; omega), up _ G.b1, o.2⟩
theorem edge_bd {box : List Nat} {n : Int} {s : Scl × Scl} {g : Nat} (hb : ∀ i, Sy73.nth box i ≤ 40) (G : Good n s) : Bd (n + 40) (edgeM box s g).lo ∧ Bd (n + 40) (edgeM box s g).hi := by
  have one : ∀ al : Scl, Sg al → Bd n al.start → Bd (n + 40) (min (al.place 0) (al.place (Sy73.nth box al.axis))) ∧ Bd (n + 40) (max (al.place 0) (al.place (Sy73.nth box al.axis))) := by
    intro al sg bd
    have p0 := place_bd (c := 0) (m := 40) sg bd (by decide) (by decide)
    have hx := hb al.axis
    have p1 := place_bd (c := Sy73.nth box al.axis) (m := 40) sg bd (by omega) (by omega)
    unfold Bd at *
    constructor <;> constructor <;> omega
  unfold edgeM
  cases axCross s g with
  | true => exact one s.2 G.s2 G.b2
  | false => exact one s.1 G.s1 G.b1
theorem spot_bd {p : List Nat} {n : Int} {s : Scl × Scl} (hp : ∀ i, Sy73.nth p i ≤ 40) (G : Good n s) : Bd (n + 40) (spotM s p).1 ∧ Bd (n + 40) (spotM s p).2 := by
  have h1 := hp s.1.axis
  have h2 := hp s.2.axis
  exact ⟨place_bd G.s1 G.b1 (by omega) (by omega), place_bd G.s2 G.b2 (by omega) (by omega)⟩
theorem Bd.up {n m x : Int} (h : Bd n x) (k : n ≤ m) : Bd m x := by
  unfold Bd at *
  constructor <;> omega
def optV (o : Option Int) : V := match o with
  | none => .non
  | some d => .int d
theorem layM_good {box : List Nat} (hb : ∀ i, Sy73.nth box i ≤ 40) : ∀ (t : List Nat) (s : Scl × Scl) (f : Nat) (n : Int), Good n s → f < 6 → linkedB f t = true →
    Good (n + 80 * (t.length : Int)) (layM box s f t).1 ∧ ∀ e ∈ (layM box s f t).2, Bd (n + 80 * (t.length : Int)) e.lo ∧ Bd (n + 80 * (t.length : Int)) e.hi
  | [], s, f, n, G, _, _ => ⟨⟨G.s1, G.s2, G.x1, G.x2, G.b1.up (by simp), G.b2.up (by simp)⟩, fun e he => absurd he (List.not_mem_nil)⟩
  | g :: r, s, f, n, G, hf, hl => by
    simp only [linkedB, Bool.and_eq_true, decide_eq_true_eq] at hl
    have G' := good_beyond (box := box) (g := g) hb G hf
    have ih := layM_good hb r (beyondM box s f g) g (n + 80) G' hl.1.1 hl.2
    have el : n + 80 * (((g :: r).length : Nat) : Int) = n + 80 + 80 * (r.length : Int) := by
      rw [List.length_cons]
      omega
    rw [el]
    refine ⟨ih.1, fun e he => ?_⟩
    have he : e ∈ edgeM box s g :: (layM box (beyondM box s f g) g r).2 := he
    rcases List.mem_cons.mp he with rfl | he
    · have eb := edge_bd (g := g) hb G
      exact ⟨eb.1.up (by omega), eb.2.up (by omega)⟩
    · exact ih.2 e he
theorem row_good {box row : List Nat} (hb : ∀ i, Sy73.nth box i ≤ 40) (h : RowOk row) : Good (80 * (row.length : Int)) (lastSc box row) ∧ ∀ e ∈ edgesOf box row, Bd (80 * (row.length : Int)) e.lo ∧ Bd (80 * (row.length : Int)) e.hi := by
  obtain ⟨f, t, rfl, hf, hl⟩ := h
  have G := layM_good hb t (firstM f) f 0 (good_first f) hf hl
  have le : (0 : Int) + 80 * (t.length : Int) ≤ 80 * (((f :: t).length : Nat) : Int) := by
    rw [List.length_cons]
    omega
  refine ⟨⟨G.1.s1, G.1.s2, G.1.x1, G.1.x2, G.1.b1.up le, G.1.b2.up le⟩, fun e he => ?_⟩
  have := G.2 e he
  exact ⟨this.1.up le, this.2.up le⟩
theorem good_fst (row : List Nat) : Good 0 (fstSc row) := good_first _
def EdgesAt (C : Addr) (H : Hp) (as : List Addr) (es : List Edg) : Prop := Paired (EdAt C H) as es
theorem EdgesAt.same {C : Addr} {H H' : Hp} {as : List Addr} {es : List Edg} (h : EdgesAt C H as es) (s : Same H H') : EdgesAt C H' as es := Paired.mono (fun _ _ q => EdAt.same q s) h
/-! ### laid rows in the heap -/
def lrF (r s0 s1 L : Addr) : List (Str × V) := [("row", .ref r), ("first", .ref s0), ("last", .ref s1), ("edges", .ref L)]
theorem lr_lk1 (r s0 s1 L : Addr) : (lrF r s0 s1 L).lookup ("row" : Str) = some (.ref r) := lk_here
theorem lr_lk2 (r s0 s1 L : Addr) : (lrF r s0 s1 L).lookup ("first" : Str) = some (.ref s0) := (lk_past (by decide +kernel)).trans lk_here
theorem lr_lk3 (r s0 s1 L : Addr) : (lrF r s0 s1 L).lookup ("last" : Str) = some (.ref s1) := (lk_past (by decide +kernel)).trans ((lk_past (by decide +kernel)).trans lk_here)
theorem lr_lk4 (r s0 s1 L : Addr) : (lrF r s0 s1 L).lookup ("edges" : Str) = some (.ref L) := (lk_past (by decide +kernel)).trans ((lk_past (by decide +kernel)).trans ((lk_past (by decide +kernel)).trans lk_here))
structure LrIn (cS cE cL : Addr) (box : List Nat) (H : Hp) (a : Addr) (row : List Nat) (dx r s0 s1 L : Addr) (as : List Addr) : Prop where
  at_ : H a = some (.ins cL dx (lrF r s0 s1 L))
  row_ : H r = some (.lst (row.map nv))
  fst_ : ScalesAt cS H s0 (fstSc row)
  last_ : ScalesAt cS H s1 (lastSc box row)
  edg_ : H L = some (.lst (refs as))
  edges_ : EdgesAt cE H as (edgesOf box row)
  ok : RowOk row
  len : row.length ≤ 1000
def LrAt (cS cE cL : Addr) (box : List Nat) (H : Hp) (a : Addr) (row : List Nat) : Prop := ∃ dx r s0 s1 L as, LrIn cS cE cL box H a row dx r s0 s1 L as
theorem LrIn.same {cS cE cL : Addr} {box : List Nat} {H H' : Hp} {a : Addr} {row : List Nat} {dx r s0 s1 L : Addr} {as : List Addr} (h : LrIn cS cE cL box H a row dx r s0 s1 L as) (k : Same H H') : LrIn cS cE cL box H' a row dx r s0 s1 L as :=
  ⟨k _ _ h.at_, k _ _ h.row_, h.fst_.same k, h.last_.same k, k _ _ h.edg_, EdgesAt.same h.edges_ k, h.ok, h.len⟩
theorem LrAt.same {cS cE cL : Addr} {box : List Nat} {H H' : Hp} {a : Addr} {row : List Nat} (h : LrAt cS cE cL box H a row) (k : Same H H') : LrAt cS cE cL box H' a row := by
  obtain ⟨dx, r, s0, s1, L, as, h⟩ := h
  exact ⟨dx, r, s0, s1, L, as, h.same k⟩
def LrsAt (cS cE cL : Addr) (box : List Nat) (H : Hp) (as : List Addr) (rows : List (List Nat)) : Prop := Paired (LrAt cS cE cL box H) as rows
theorem LrsAt.same {cS cE cL : Addr} {box : List Nat} {H H' : Hp} {as : List Addr} {rows : List (List Nat)} (h : LrsAt cS cE cL box H as rows) (k : Same H H') : LrsAt cS cE cL box H' as rows := Paired.mono (fun _ _ q => LrAt.same q k) h
def spLrI (C : Addr) : Sp := fun vs H Q _ => ∃ (p dx r s0 s1 L : Addr), vs = [.ref p, .ref r, .ref s0, .ref s1, .ref L] ∧ H p = some (.ins C dx []) ∧ ∀ H' : Hp, H' p = some (.ins C dx (lrF r s0 s1 L)) → (∀ b o, H b = some o → b ≠ p → H' b = some o) → Q .non H'
def spAlone (cS cE cL : Addr) : Sp := fun vs H Q _ => ∃ f : Nat, vs = [nv f] ∧ f < 6 ∧ ∀ (H' : Hp) (q : Addr), Same H H' → H q = none → (∀ box, LrAt cS cE cL box (wo H' (allOf H)) q [f]) → Q (.ref q) H'
def Box3 (box : List Nat) : Prop := box.length = 3 ∧ ∀ i, Sy73.nth box i ≤ 40
def spOn (K : Frg) (cS cE cL : Addr) : Sp := fun vs H Q _ => ∃ (A : Addr → Prop) (a b : Addr) (box row : List Nat) (f : Nat), Old A H ∧ vs = [.ref a, .ref b, nv f] ∧ SqL K H a (box.map nv) ∧ Box3 box ∧ LrAt cS cE cL box (wo H A) b row ∧ f < 6 ∧ row.length < 1000 ∧ RowOk (row ++ [f]) ∧
  ∀ (H' : Hp) (q : Addr), Same H H' → H q = none → LrAt cS cE cL box (wo H' A) q (row ++ [f]) → Q (.ref q) H'
def spLay (K : Frg) (cS cE cL : Addr) : Sp := fun vs H Q _ => ∃ (a b : Addr) (box row : List Nat), vs = [.ref a, .ref b] ∧ SqL K H a (box.map nv) ∧ Box3 box ∧ SqL K H b (row.map nv) ∧ RowOk row ∧ row.length ≤ 1000 ∧
  ∀ (H' : Hp) (q : Addr), Same H H' → LrAt cS cE cL box H' q row → Q (.ref q) H'
def spBeg1 (K : Frg) (cS cE cL : Addr) (n : Nat) : Sp := fun vs H Q _ => ∃ (A : Addr → Prop) (a b : Addr) (box row : List Nat), Old A H ∧ vs = [.ref a, .ref b] ∧ SqL K H a (box.map nv) ∧ Box3 box ∧ LrAt cS cE cL box (wo H A) b row ∧ enoughB n row = true ∧ n ≤ 5 ∧ row.length + n ≤ 1000 ∧
  ∀ (H' : Hp) (q : Addr) (as : List Addr), Same H H' → H q = none → H' q = some (.lst (refs as)) → LrsAt cS cE cL box (wo H' A) as (rowsBegM n row) → Q (.ref q) H'
def spBeg (K : Frg) (cS cE cL : Addr) (n : Nat) : Sp := fun vs H Q E => ∃ m, m < n ∧ spBeg1 K cS cE cL m vs H Q E
def spFrom (K : Frg) (cS cE cL : Addr) : Sp := fun vs H Q _ => ∃ (A : Addr → Prop) (a b : Addr) (box fs : List Nat), Old A H ∧ vs = [.ref a, .ref b] ∧ SqL K H a (box.map nv) ∧ Box3 box ∧ SqL K H b (fs.map nv) ∧ (∀ f ∈ fs, f < 6) ∧ fs.length ≤ 6 ∧
  ∀ (H' : Hp) (q : Addr) (as : List Addr), Same H H' → H q = none → H' q = some (.lst (refs as)) → LrsAt cS cE cL box (wo H' A) as (allFrom fs) → Q (.ref q) H'
theorem lr_put (r s0 s1 L : Addr) : putF "edges" (.ref L) (putF "last" (.ref s1) (putF "first" (.ref s0) (putF "row" (.ref r) []))) = lrF r s0 s1 L := by
  show putF "edges" (.ref L) (putF "last" (.ref s1) (putF "first" (.ref s0) [("row", .ref r)])) = _
  rw [put_past (by decide +kernel)]
  show putF "edges" (.ref L) (putF "last" (.ref s1) [("row", .ref r), ("first", .ref s0)]) = _
  rw [put_past (by decide +kernel), put_past (by decide +kernel)]
  show putF "edges" (.ref L) [("row", .ref r), ("first", .ref s0), ("last", .ref s1)] = _
  rw [put_past (by decide +kernel), put_past (by decide +kernel), put_past (by decide +kernel)]
  rfl
theorem fits {n m : Nat} (h : n ≤ m) (k : decide (m ≤ sizeLine) = true := by decide) : n ≤ sizeLine := Nat.le_trans h (of_decide_eq_true k)
section
variable {P : Program} {w : World} {K : Frg} {mg : Str → Option Value} {base : Heap} {cS cE cL cB : Addr}
theorem m_LaidRow (D : InitOk K mg "LaidRow" cL "LaidRow.__init__" s_LaidRow___init__ ["self", "row", "first", "last", "edges"]) (T : Tx K mg cS cE cL cB) : C8.Mak P w K mg base 1 "LaidRow" cL (spLrI cL) [] := by
  obtain ⟨f, fd, M, F, b⟩ := D.ex
  refine C8.mak0 M D.mgc F b .nil sc_LaidRow___init__ (fun vs H Q E h => ?_) (fun cdv A outer s H vs Q E hr h => ⟨_, (pss_cons (ps_fld (pv 0) (pv 1) rfl)
    (pss_cons (ps_fld (pv 0) (pv 2) rfl)
    (pss_cons (ps_fld (pv 0) (pv 3) rfl)
    (pss_one (ps_fld (pv 0) (pv 4) rfl))))), ?_⟩)
  · obtain ⟨p, dx, r, s0, s1, L, rfl, _⟩ := h
    rfl
  · obtain ⟨p, dx, r, s0, s1, L, rfl, hp, k⟩ := h
    have e1 : putF "first" (.ref s0) (putF "row" (.ref r) []) = ([("row", .ref r), ("first", .ref s0)] : List (Str × V)) := by
      show putF "first" (.ref s0) [("row", .ref r)] = _
      rw [put_past (by decide +kernel)]
      rfl
    have e2 : putF "last" (.ref s1) (putF "first" (.ref s0) (putF "row" (.ref r) [])) = ([("row", .ref r), ("first", .ref s0), ("last", .ref s1)] : List (Str × V)) := by
      rw [e1, put_past (by decide +kernel), put_past (by decide +kernel)]
      rfl
    refine ⟨_, rfl, _, rfl, p, cL, dx, [], rfl, hp, T.clL, T.aL.1, (by show 0 < 1000; decide), ?_⟩
    refine ⟨_, rfl, _, rfl, p, cL, dx, _, rfl, upd_same, T.clL, T.aL.2.1, (by show 1 < 1000; decide), ?_⟩
    refine ⟨_, rfl, _, rfl, p, cL, dx, _, rfl, upd_same, T.clL, T.aL.2.2.1, ?_, ?_⟩
    · show (putF "first" (.ref s0) (putF "row" (.ref r) [])).length < 1000
      rw [e1]
      show 2 < 1000
      decide
    · refine ⟨_, rfl, _, rfl, p, cL, dx, _, rfl, upd_same, T.clL, T.aL.2.2.2, ?_, ?_⟩
      · show (putF "last" (.ref s1) (putF "first" (.ref s0) (putF "row" (.ref r) []))).length < 1000
        rw [e2]
        show 3 < 1000
        decide
      · exact k _ (Eq.trans upd_same (congrArg (fun q => some (HO.ins cL dx q)) (lr_put r s0 s1 L))) fun b o e hb => by
          rw [upd_ne hb, upd_ne hb, upd_ne hb, upd_ne hb]
          exact e
theorem c_laid_alone (D : DefOk K mg "laid_alone" s_laid_alone ["face"]) (T : Tx K mg cS cE cL cB) (c_first_scales : C8.Cal P w K mg base 3 "first_scales" (spFirst cS) []) (m_LaidRow : C8.Mak P w K mg base 1 "LaidRow" cL (spLrI cL) []) : C8.Cal P w K mg base 4 "laid_alone" (spAlone cS cE cL) [] := by
  obtain ⟨f, fd, F, b⟩ := D.ex
  refine C8.cal0 F b .nil sc_laid_alone (fun vs H Q E h => ?_) (fun cdv A outer s H vs Q E hr h => ⟨_, (pss_cons (ps_set (i := 1) sc_laid_alone.nd rfl (Or.inl rfl) (C8.pe_c c_first_scales hr (by omega) rfl (pa_cons (pv 0) pa_nil)))
    (pss_one (ps_ret (C8.pe_mk m_LaidRow hr (by omega) rfl (pa_cons (pe_lst (pa_cons (pv 0) pa_nil)) (pa_cons (pv 1) (pa_cons (pv 1) (pa_cons (pe_lst pa_nil) pa_nil)))))))), ?_⟩)
  · obtain ⟨f, rfl, _⟩ := h
    rfl
  · obtain ⟨f, rfl, hf, q⟩ := h
    refine ⟨_, rfl, f, rfl, hf, fun H1 S s1 nS scl => ?_⟩
    refine ⟨_, rfl, fits (m := 1) (Nat.le_refl _), fun r hr => ?_⟩
    have s2 := same_upd s1 (s1.free hr) (o := .lst [nv f])
    refine ⟨_, rfl, _, rfl, Nat.zero_le _, fun L hL => ?_⟩
    have s3 := same_upd s2 (s2.free hL) (o := .lst [])
    refine fun x dx hx hdx ne => ⟨x, dx, r, S, S, L, rfl, upd_same, fun H4 hat keep => ⟨rfl, ?_⟩⟩
    have s34 : Same (upd (upd H1 r (.lst [nv f])) L (.lst [])) H4 := Same.made hx hdx keep
    have s4 := s3.trans s34
    refine q _ _ s4 (s3.free hx) fun box => ⟨dx, r, S, S, L, [], ?_, ?_, ?_, ?_, ?_, .nil, rowOk_one hf, by show 1 ≤ 1000; decide⟩
    · exact wo_get hat (fun z => z (s3.free hx))
    · refine wo_get (s34 _ _ ?_) (fun z => z (s1.free hr))
      rw [upd_ne (ne_of_none upd_same hL)]
      exact upd_same
    · exact scl.same (wo_same _ (((same_upd (Same.refl _) hr).trans (same_upd (Same.refl _) hL)).trans s34))
    · exact scl.same (wo_same _ (((same_upd (Same.refl _) hr).trans (same_upd (Same.refl _) hL)).trans s34))
    · exact wo_get (s34 _ _ upd_same) (fun z => z (s2.free hL))
end
end SF

/-! ## W8 -/
set_option Elab.async false
set_option maxRecDepth 100000
set_option maxHeartbeats 2000000
namespace SF
open PySem PySem.Spec PyProof.Rows L2
theorem EdAt.wo {C : Addr} {H : Hp} {A : Addr → Prop} {a : Addr} {e : Edg} (h : EdAt C H a e) (n : ¬ A a) : EdAt C (wo H A) a e := by
  obtain ⟨d, h⟩ := h
  exact ⟨d, wo_get h n⟩
theorem refs_snoc (as : List Addr) (x : Addr) : refs as ++ [.ref x] = refs (as ++ [x]) := by
  unfold refs
  rw [List.map_append]
  rfl
theorem refs_len (as : List Addr) : (refs as).length = as.length := List.length_map _
theorem refs_app (as bs : List Addr) : refs as ++ refs bs = refs (as ++ bs) := by
  unfold refs
  rw [List.map_append]
theorem edges_len (box : List Nat) : ∀ (t : List Nat) (s : Scl × Scl) (f : Nat), (layM box s f t).2.length = t.length
  | [], _, _ => rfl
  | g :: r, s, f => by
    show (edgeM box s g :: (layM box (beyondM box s f g) g r).2).length = _
    rw [List.length_cons, edges_len box r, List.length_cons]
theorem edges_le (box row : List Nat) : (edgesOf box row).length ≤ row.length := by
  cases row with
  | nil => exact Nat.le_refl _
  | cons f t =>
    show (layM box (firstM f) f t).2.length ≤ _
    rw [edges_len, List.length_cons]
    omega
theorem linked_take : ∀ {t : List Nat} {f : Nat}, linkedB f t = true → ∀ i, linkedB f (t.take i) = true
  | [], _, h, i => by
    rw [List.take_nil]
    exact h
  | g :: r, f, h, 0 => rfl
  | g :: r, f, h, i + 1 => by
    rw [List.take_succ_cons]
    simp only [linkedB, Bool.and_eq_true] at h ⊢
    exact ⟨h.1, linked_take h.2 i⟩
section
variable {P : Program} {w : World} {K : Frg} {mg : Str → Option Value} {base : Heap} {cS cE cL cB : Addr}
theorem c_laid_on (D : DefOk K mg "laid_on" s_laid_on ["lengths", "laid", "face"]) (T : Tx K mg cS cE cL cB) (c_edge_towards : C8.Cal P w K mg base 3 "edge_towards" (spEdge K cS cE) [])
    (c_scales_beyond : C8.Cal P w K mg base 3 "scales_beyond" (spBeyond K cS) []) (m_LaidRow : C8.Mak P w K mg base 1 "LaidRow" cL (spLrI cL) []) : C8.Cal P w K mg base 4 "laid_on" (spOn K cS cE cL) [] := by
  obtain ⟨f, fd, F, b⟩ := D.ex
  refine C8.cal0 F b .nil sc_laid_on (fun vs H Q E h => ?_) (fun cdv A outer s H vs Q E hr h => ⟨_, (pss_cons (ps_set (i := 3) sc_laid_on.nd rfl (Or.inl rfl) (C8.pe_c c_edge_towards hr (by omega) rfl (pa_cons (pv 0) (pa_cons (pe_fld (pv 1) rfl) (pa_cons (pv 2) pa_nil)))))
    (pss_cons (ps_set (i := 4) sc_laid_on.nd rfl (Or.inl rfl) (C8.pe_c c_scales_beyond hr (by omega) rfl (pa_cons (pv 0) (pa_cons (pe_fld (pv 1) rfl) (pa_cons (pe_ix ix_list (pe_fld (pv 1) rfl) (pe_un un_neg pe_int) (fun _ _ => rfl)) (pa_cons (pv 2) pa_nil))))))
    (pss_one (ps_ret (C8.pe_mk m_LaidRow hr (by omega) rfl (pa_cons (pe_op op_cat (pe_fld (pv 1) rfl) (pe_lst (pa_cons (pv 2) pa_nil))) (pa_cons (pe_fld (pv 1) rfl) (pa_cons (pv 4) (pa_cons (pe_op op_cat (pe_fld (pv 1) rfl) (pe_lst (pa_cons (pv 3) pa_nil))) pa_nil))))))))), ?_⟩)
  · obtain ⟨_, a, b, box, row, f, _, rfl, _⟩ := h
    rfl
  · obtain ⟨A, a, b, box, row, f, oA, rfl, hA, hb, ⟨dx, r, s0, s1, L, as, LW⟩, hf, hl, hok, k⟩ := h
    have LI := LW.same (wo_le _ _)
    have G := (row_good hb.2 LW.ok).1
    obtain ⟨x, hx, hx6⟩ := rowOk_last LW.ok
    refine ⟨_, rfl, _, rfl, b, cL, dx, _, _, rfl, LI.at_, T.clL, T.aL.2.2.1, lr_lk3 .., _, rfl, a, s1, box, lastSc box row, f, rfl, hA, hb.1, LI.last_, G.s1, G.s2, G.x1, G.x2, hf, fun H1 ed t1 ned hed => ?_⟩
    have LI1 := LI.same t1
    refine ⟨_, rfl, _, rfl, b, cL, dx, _, _, rfl, LI1.at_, T.clL, T.aL.2.2.1, lr_lk3 .., _, rfl, b, cL, dx, _, _, rfl, LI1.at_, T.clL, T.aL.1, lr_lk1 .., _, rfl, _, _, _, _, rfl, rfl, SqL.of LI1.row_, at_last hx, _, rfl,
      A, a, s1, box, lastSc box row, x, f, oA.same t1, rfl, t1.seq hA, hb.1, (LW.same (wo_same A t1)).last_, G.s1, G.s2, hx6, hf, fun H2 S t2 nS scl => ?_⟩
    have t12 := t1.trans t2
    have LI2 := LI1.same t2
    refine ⟨_, rfl, b, cL, dx, _, _, rfl, LI2.at_, T.clL, T.aL.1, lr_lk1 .., _, rfl, fits (m := 1) (Nat.le_refl _), fun p hp => ?_⟩
    have t3 := same_upd (Same.refl H2) hp (o := .lst [nv f])
    have LI3 := LI2.same t3
    refine ⟨r, p, row.map nv, [nv f], rfl, rfl, LI3.row_, upd_same, fits (m := 1001) (by rw [List.length_map]; show row.length + 1 ≤ 1001; omega), fun r' hr' => ?_⟩
    have t4 := same_upd t3 (t3.free hr') (o := .lst (row.map nv ++ [nv f]))
    have LI4 := LI2.same t4
    refine ⟨_, rfl, b, cL, dx, _, _, rfl, LI4.at_, T.clL, T.aL.2.1, lr_lk2 .., _, rfl, _, rfl, b, cL, dx, _, _, rfl, LI4.at_, T.clL, T.aL.2.2.2, lr_lk4 .., _, rfl, fits (m := 1) (Nat.le_refl _), fun e1 he1 => ?_⟩
    have t5 := same_upd t4 (t4.free he1) (o := .lst [.ref ed])
    have LI5 := LI2.same t5
    refine ⟨L, e1, refs as, [.ref ed], rfl, rfl, LI5.edg_, upd_same, fits (m := 1001) ?_, fun L' hL' => ?_⟩
    · have l1 := LI5.edges_.length
      have l2 := edges_le box row
      rw [refs_len]
      show as.length + 1 ≤ 1001
      omega
    have t6 := same_upd t5 (t5.free hL') (o := .lst (refs as ++ [.ref ed]))
    refine fun y dy hy hdy ne => ⟨y, dy, r', s0, S, L', rfl, upd_same, fun H7 hat keep => ⟨rfl, ?_⟩⟩
    have t67 := Same.made hy hdy keep
    have t26 := t6.trans t67
    have t06 := t12.trans t6
    have t07 := t12.trans t26
    refine k _ _ t07 (t06.free hy) ⟨dy, r', s0, S, L', as ++ [ed], ?_, ?_, ?_, ?_, ?_, ?_, hok, by rw [List.length_append]; show row.length + 1 ≤ 1000; omega⟩
    · exact wo_get hat (oA.no (t06.free hy))
    · refine wo_get (t67 _ _ ?_) (oA.no ((t12.trans t3).free hr'))
      rw [upd_ne (ne_of_none (by rw [upd_ne (ne_of_none upd_same he1)]; exact upd_same) hL'), upd_ne (ne_of_none upd_same he1), upd_same, List.map_append]
      rfl
    · rw [fst_snoc LW.ok.ne]
      exact (LW.same (wo_same A t07)).fst_
    · rw [lastSc_snoc hx]
      exact scl.same (wo_same A t26)
    · rw [← refs_snoc]
      exact wo_get (t67 _ _ upd_same) (oA.no ((t12.trans t5).free hL'))
    · rw [edges_snoc hx]
      exact paired_app (LW.same (wo_same A t07)).edges_ (.cons ((hed.wo (oA.no ned)).same (wo_same A (t2.trans t26))) .nil)
theorem c_lay (D : DefOk K mg "lay" s_lay ["lengths", "row"]) (c_laid_alone : C8.Cal P w K mg base 4 "laid_alone" (spAlone cS cE cL) []) (c_laid_on : C8.Cal P w K mg base 4 "laid_on" (spOn K cS cE cL) []) : C8.Cal P w K mg base 5 "lay" (spLay K cS cE cL) [] := by
  obtain ⟨f, fd, F, b⟩ := D.ex
  refine C8.cal0 F b .nil sc_lay (fun vs H Q E h => ?_) (fun cdv A outer s H vs Q E hr h => ⟨_, (pss_cons (ps_set (i := 2) sc_lay.nd rfl (Or.inl rfl) (C8.pe_c c_laid_alone hr (by omega) rfl (pa_cons (pe_ix ix_list (pv 1) pe_int (fun _ _ => rfl)) pa_nil)))
    (pss_cons (ps_for PassesOwn.never rfl (pi_list (pe_slice sl_list (pv 1) (po_some pe_int) po_none)) (pg_name (i := 3) sc_lay.nd rfl (Or.inl rfl))
      (pss_one (ps_set (i := 2) sc_lay.nd rfl (Or.inl rfl) (C8.pe_c c_laid_on hr (by omega) rfl (pa_cons (pv 0) (pa_cons (pv 2) (pa_cons (pv 3) pa_nil)))))))
    (pss_one (ps_ret (pv 2))))), ?_⟩)
  · obtain ⟨a, b, box, row, rfl, _⟩ := h
    rfl
  · obtain ⟨a, b, box, row, rfl, hA, hb, hB, hok, hl, k⟩ := h
    obtain ⟨f, t, rfl, hf, hlk⟩ := id hok
    refine ⟨_, rfl, _, _, _, _, rfl, rfl, hB, at_nv (l := f :: t) (i := 0) (Nat.succ_pos _), f, rfl, hf, fun H1 q t1 nq lr => ?_⟩
    refine ⟨_, rfl, _, rfl, b, _, rfl, t1.seq hB, fun p hp => ⟨p, rfl, ⟨_, SqL.of upd_same⟩, ?_⟩⟩
    have t2 := same_upd t1 (t1.free hp) (o := .lst (cutV ((f :: t).map nv) (some 1) none))
    have ec : cutV ((f :: t).map nv) (some 1) none = t.map nv := by
      unfold cutV
      rw [HT.sIx_none, show (some 1 : Option Int) = some ((1 : Nat) : Int) from rfl, HT.sIx_nat]
      simp
      exact List.take_of_length_le (by simp)
    have hl' : t.length + 1 ≤ 1000 := hl
    rw [ec] at t2 ⊢
    have lr0 : LrAt cS cE cL box (wo (upd H1 p (.lst (t.map nv))) (allOf H)) q [f] := (lr box).same (wo_same _ (same_upd (Same.refl _) hp))
    refine for_list (K := K) (a := p) (xs := t.map nv) (fun i σ H' => ∃ c v, σ = [some (.ref a), some (.ref b), some (.ref c), v] ∧ Same H H' ∧ H' p = some (.lst (t.map nv)) ∧ LrAt cS cE cL box (wo H' (allOf H)) c (f :: t.take i))
      ⟨q, none, rfl, t2, upd_same, lr0⟩ (fun i σ H' _ h => by obtain ⟨_, _, _, _, h, _⟩ := h; exact SqL.of h) ?_ ?_
    · rintro i v σ H' hi ⟨c, v', rfl, s1, hp1, lrc⟩
      obtain ⟨g, hg, rfl⟩ := nv_at hi
      have hil := (List.getElem?_eq_some_iff.mp hg).1
      have g6 := linked_mem hlk g (List.mem_of_getElem? hg)
      have et : f :: t.take (i + 1) = (f :: t.take i) ++ [g] := by
        rw [take_snoc hg]
        rfl
      have okT : RowOk ((f :: t.take i) ++ [g]) := by
        rw [← et]
        exact ⟨f, t.take (i + 1), rfl, hf, linked_take hlk _⟩
      refine ⟨_, rfl, _, rfl, _, rfl, allOf H, a, c, box, _, g, (old_all H).same s1, rfl, s1.seq hA, hb, lrc, g6, ?_, okT, fun H2 q2 s2 nq2 lr2 => ⟨q2, _, rfl, s1.trans s2, s2 _ _ hp1, ?_⟩⟩
      · rw [List.length_cons, List.length_take]
        omega
      · rw [et]
        exact lr2
    · rintro σ H' ⟨c, v', rfl, s1, hp1, lrc⟩
      rw [List.length_map, List.take_length] at lrc
      exact ⟨_, rfl, k _ _ s1 (lrc.same (wo_le _ _))⟩
end
end SF

/-! ## W9 -/
set_option Elab.async false
set_option maxRecDepth 100000
set_option maxHeartbeats 2000000
namespace SF
open PySem PySem.Spec PyProof.Rows L2
section
variable {P : Program} {w : World} {K : Frg} {mg : Str → Option Value} {base : Heap} {cS cE cL cB : Addr}
theorem c_laid_beginning (D : DefOk K mg "laid_beginning" s_laid_beginning ["lengths", "laid"]) (T : Tx K mg cS cE cL cB) (c_can_follow : C8.Cal P w K mg base 2 "can_follow" (spFollow K) [])
    (c_laid_on : C8.Cal P w K mg base 4 "laid_on" (spOn K cS cE cL) []) : ∀ n, C8.Cal P w K mg base (n + 4) "laid_beginning" (spBeg K cS cE cL n) [] := by
  obtain ⟨f, fd, F, b⟩ := D.ex
  intro n
  induction n with
  | zero => exact ⟨f, fd, _, [], ⟨fun vs H Q E h => by obtain ⟨m, hm, _⟩ := h; exact absurd hm (Nat.not_lt_zero _), fun A outer s H args us vs Q E _ _ _ _ h => by obtain ⟨m, hm, _⟩ := h; exact absurd hm (Nat.not_lt_zero _)⟩, F.mgf, F.kp, b, .nil⟩
  | succ n c_laid_beginning =>
    refine C8.cal0 (k := n + 4) F b .nil sc_laid_beginning (fun vs H Q E h => ?_) (fun cdv A outer s H vs Q E hr h => ⟨_, (pss_cons (ps_set (i := 2) sc_laid_beginning.nd rfl (Or.inl rfl) (pe_lst (pa_cons (pv 1) pa_nil)))
    (pss_cons (ps_for PassesOwn.never rfl (pi_range1 rfl T.n_range (pa_cons (pe_globI rfl T.g_FACES) pa_nil)) (pg_name (i := 3) sc_laid_beginning.nd rfl (Or.inl rfl))
      (pss_one (ps_if (pt_val (C8.pe_c c_can_follow hr (by omega) rfl (pa_cons (pe_fld (pv 1) rfl) (pa_cons (pv 3) pa_nil))))
      (pss_one (ps_expr (pe_bm PySem.F.plainAttrs_list PySem.F.slot_list_extend PySem.F.type_list_extend mt_extend (pv 2) (pa_cons (C8.pe_c c_laid_beginning hr (by omega) rfl (pa_cons (pv 0) (pa_cons (C8.pe_c c_laid_on hr (by omega) rfl (pa_cons (pv 0) (pa_cons (pv 1) (pa_cons (pv 3) pa_nil)))) pa_nil))) pa_nil))))
      pss_nil)))
    (pss_one (ps_ret (pv 2))))), ?_⟩)
    · obtain ⟨m, hm, _, a, b, box, row, _, rfl, _⟩ := h
      rfl
    · obtain ⟨m, hm, A, a, b, box, row, oA, rfl, hA, hb, hB, hE, h5, hl, q⟩ := h
      refine ⟨_, rfl, fits (m := 1) (Nat.le_refl _), fun R hR => ⟨_, rfl, by decide, by decide, ?_⟩⟩
      have s0 := same_upd (Same.refl H) hR (o := .lst [.ref b])
      have oA0 : Old (orR A R) (upd H R (.lst [.ref b])) := oA.add s0 (by rw [upd_same]; intro z; cases z)
      have hB0 : LrAt cS cE cL box (wo (upd H R (.lst [.ref b])) (orR A R)) b row := hB.same (wo_add s0 hR)
      have yR : orR A R R := .inr rfl
      refine for_range (lo := 0) (n := 6) (fun i σ H' => ∃ v as, σ = [some (.ref a), some (.ref b), some (.ref R), v] ∧ Same H H' ∧ Old (orR A R) H' ∧ LrAt cS cE cL box (wo H' (orR A R)) b row ∧ H' R = some (.lst (refs as)) ∧ LrsAt cS cE cL box (wo H' (orR A R)) as (upRows m row i))
        ⟨none, [b], rfl, s0, oA0, hB0, upd_same, .cons hB0 .nil⟩ ?_ ?_
      · rintro i σ H' hi ⟨v, as, rfl, s1, oA1, hB1, hR1, inv⟩
        have ei : (0 : Int) + (i : Int) = (i : Int) := by omega
        rw [ei]
        obtain ⟨dx, r, z0, z1, L, es, LW⟩ := id hB1
        have LI := LW.same (wo_le _ _)
        refine ⟨_, rfl, b, cL, dx, _, _, rfl, LI.at_, T.clL, T.aL.1, lr_lk1 .., _, rfl, r, row, i, rfl, SqL.of LI.row_, LI.ok.ne, _, rfl, ?_⟩
        refine ite2 (fun c => ?_) (fun c => ?_)
        · obtain ⟨hn, hE2⟩ := enough_next hE hi c
          refine ⟨_, rfl, .inl ⟨rfl, _, SqL.of hR1⟩, _, rfl, _, rfl, _, rfl, _, rfl, orR A R, a, b, box, row, i, oA1, rfl, s1.seq hA, hb, hB1, hi, by omega, rowOk_snoc LI.ok hi c, fun H2 q2 s2 nq2 lr2 => ?_⟩
          have s12 := s1.trans s2
          refine ⟨m - 1, by omega, orR A R, a, q2, box, row ++ [i], oA1.same s2, rfl, s12.seq hA, hb, lr2, hE2, by omega, ?_, fun H3 z as3 s3 hz hz3 rows3 => ?_⟩
          · rw [List.length_append]
            show row.length + 1 + (m - 1) ≤ 1000
            omega
          · have s23 := s2.trans s3
            refine ⟨R, z, refs as, refs as3, rfl, rfl, s23 _ _ hR1, hz3, ?_, ?_⟩
            · have l1 := inv.length
              have l2 := rows3.length
              have l3 := up_len (n := m) (row := row) (i := i) h5 (by omega)
              have l4 := up_len (n := m) (row := row) (i := i + 1) h5 (by omega)
              rw [up_yes c, List.length_append] at l4
              rw [refs_len, refs_len]
              exact fits (m := 100000) (show as.length + as3.length ≤ 100000 by omega)
            · refine ⟨_, as ++ as3, rfl, same_upd (s1.trans s23) hR, (oA1.same s23).upd, ?_, ?_, ?_⟩
              · rw [wo_upd yR]
                exact hB1.same (wo_same _ s23)
              · rw [upd_same, refs_app]
              · rw [up_yes c, wo_upd yR]
                exact paired_app (inv.same (wo_same _ s23)) rows3
        · exact ⟨_, as, rfl, s1, oA1, hB1, hR1, by rw [up_no c]; exact inv⟩
      · rintro σ H' ⟨v, as, rfl, s1, oA1, hB1, hR1, inv⟩
        rw [up_end hE] at inv
        exact ⟨_, rfl, q _ _ as s1 hR hR1 (inv.same (wo_anti fun b z => .inl z))⟩
theorem from_next {fs : List Nat} {i f : Nat} (h : fs[i]? = some f) : allFrom (fs.take (i + 1)) = allFrom (fs.take i) ++ rowsBegM 5 [f] := by
  rw [take_snoc h]
  unfold allFrom
  rw [List.flatMap_append]
  simp only [List.flatMap_cons, List.flatMap_nil, List.append_nil]
theorem c_laid_from (D : DefOk K mg "laid_from" s_laid_from ["lengths", "faces"]) (c_laid_alone : C8.Cal P w K mg base 4 "laid_alone" (spAlone cS cE cL) []) (c_laid_beginning : C8.Cal P w K mg base 10 "laid_beginning" (spBeg K cS cE cL 6) []) : C8.Cal P w K mg base 11 "laid_from" (spFrom K cS cE cL) [] := by
  obtain ⟨f, fd, F, b⟩ := D.ex
  refine C8.cal0 F b .nil sc_laid_from (fun vs H Q E h => ?_) (fun cdv A outer s H vs Q E hr h => ⟨_, (pss_cons (ps_set (i := 2) sc_laid_from.nd rfl (Or.inl rfl) (pe_lst pa_nil))
    (pss_cons (ps_for PassesOwn.never rfl (pi_list (pv 1)) (pg_name (i := 3) sc_laid_from.nd rfl (Or.inl rfl))
      (pss_one (ps_expr (pe_bm PySem.F.plainAttrs_list PySem.F.slot_list_extend PySem.F.type_list_extend mt_extend (pv 2) (pa_cons (C8.pe_c c_laid_beginning hr (by omega) rfl (pa_cons (pv 0) (pa_cons (C8.pe_c c_laid_alone hr (by omega) rfl (pa_cons (pv 3) pa_nil)) pa_nil))) pa_nil)))))
    (pss_one (ps_ret (pv 2))))), ?_⟩)
  · obtain ⟨_, a, b, box, fs, _, rfl, _⟩ := h
    rfl
  · obtain ⟨A, a, b, box, fs, oA, rfl, hA, hb, hB, h6, hl, q⟩ := h
    refine ⟨Nat.zero_le _, fun R hR => ⟨_, rfl, b, rfl, ⟨_, (same_upd (Same.refl _) hR).seq hB⟩, ?_⟩⟩
    have s0 := same_upd (Same.refl H) hR (o := .lst [])
    have oA0 : Old (orR A R) (upd H R (.lst [])) := oA.add s0 (by rw [upd_same]; intro z; cases z)
    have yR : orR A R R := .inr rfl
    refine for_list (K := K) (a := b) (xs := fs.map nv) (fun i σ H' => ∃ v as, σ = [some (.ref a), some (.ref b), some (.ref R), v] ∧ Same H H' ∧ Old (orR A R) H' ∧ H' R = some (.lst (refs as)) ∧ LrsAt cS cE cL box (wo H' (orR A R)) as (allFrom (fs.take i)))
      ⟨none, [], rfl, s0, oA0, upd_same, .nil⟩ (fun i σ H' _ h => by obtain ⟨_, _, _, s1, _⟩ := h; exact s1.seq hB) ?_ ?_
    · rintro i v σ H' hi ⟨v1, as, rfl, s1, oA1, hR1, inv⟩
      obtain ⟨f, hf, rfl⟩ := nv_at hi
      have f6 := h6 f (List.mem_of_getElem? hf)
      refine ⟨_, rfl, .inl ⟨rfl, _, SqL.of hR1⟩, _, rfl, _, rfl, f, rfl, f6, fun H2 q2 s2 nq2 lr2 => ?_⟩
      have s12 := s1.trans s2
      refine ⟨5, by decide, orR A R, a, q2, box, [f], oA1.same s2, rfl, s12.seq hA, hb, (lr2 box).same (wo_anti fun b z => oA1 b z), enough6 f f6, by decide, (by show 1 + 5 ≤ 1000; decide), fun H3 z as3 s3 hz hz3 rows3 => ?_⟩
      have s23 := s2.trans s3
      refine ⟨R, z, refs as, refs as3, rfl, rfl, s23 _ _ hR1, hz3, ?_, ?_⟩
      · have l1 := inv.length
        have l2 := rows3.length
        have l3 := all_len (fs.take (i + 1))
        have l4 : (fs.take (i + 1)).length ≤ 6 := by
          rw [List.length_take]
          omega
        have l5 := Nat.mul_le_mul_right (7 ^ 5) l4
        rw [from_next hf, List.length_append] at l3
        rw [refs_len, refs_len]
        exact fits (m := 6 * 7 ^ 5) (show as.length + as3.length ≤ 6 * 7 ^ 5 by omega)
      · refine ⟨_, as ++ as3, rfl, same_upd (s1.trans s23) hR, (oA1.same s23).upd, ?_, ?_⟩
        · rw [upd_same, refs_app]
        · rw [from_next hf, wo_upd yR]
          exact paired_app (inv.same (wo_same _ s23)) rows3
    · rintro σ H' ⟨v, as, rfl, s1, oA1, hR1, inv⟩
      rw [List.length_map, List.take_length] at inv
      exact ⟨_, rfl, q _ _ as s1 hR hR1 (inv.same (wo_anti fun b z => .inl z))⟩
end
end SF

/-! ## WA -/
set_option Elab.async false
set_option maxRecDepth 100000
set_option maxHeartbeats 2000000
namespace SF
open PySem PySem.Spec PyProof.Rows L2
abbrev s_square_over : Stmt := top 24
abbrev N_square_over : List Str := ["laid", "start", "end", "begin", "finish"]
theorem sc_square_over : FnScope N_square_over ["laid", "start", "end"] (C8.fnScope s_square_over) := C8.fnScope_by (by decide +kernel)
abbrev s_is_straight_way : Stmt := top 25
abbrev N_is_straight_way : List Str := ["laid", "start", "end", "begin", "finish", "edge"]
theorem sc_is_straight_way : FnScope N_is_straight_way ["laid", "start", "end"] (C8.fnScope s_is_straight_way) := C8.fnScope_by (by decide +kernel)
abbrev s_shortest_square : Stmt := top 26
abbrev N_shortest_square : List Str := ["laid_rows", "start", "end", "shortest", "laid", "square"]
theorem sc_shortest_square : FnScope N_shortest_square ["laid_rows", "start", "end"] (C8.fnScope s_shortest_square) := C8.fnScope_by (by decide +kernel)
/-- a point within the greatest box -/
def P3 (p : List Nat) : Prop := p.length = 3 ∧ ∀ i, Sy73.nth p i ≤ 40
def spSqOver (K : Frg) (cS cE cL : Addr) : Sp := fun vs H Q _ => ∃ (a b c : Addr) (box row p q : List Nat), vs = [.ref a, .ref b, .ref c] ∧ LrAt cS cE cL box H a row ∧ Box3 box ∧ SqL K H b (p.map nv) ∧ P3 p ∧ SqL K H c (q.map nv) ∧ P3 q ∧ ∀ H' : Hp, Same H H' → Q (.int (sqB box p q row)) H'
def spStr (K : Frg) (cS cE cL : Addr) : Sp := fun vs H Q _ => ∃ (a b c : Addr) (box row p q : List Nat), vs = [.ref a, .ref b, .ref c] ∧ LrAt cS cE cL box H a row ∧ Box3 box ∧ SqL K H b (p.map nv) ∧ P3 p ∧ SqL K H c (q.map nv) ∧ P3 q ∧ ∀ H' : Hp, Same H H' → Q (.bl (strB box p q row)) H'
def spShort (K : Frg) (cS cE cL : Addr) : Sp := fun vs H Q _ => ∃ (a b c : Addr) (as : List Addr) (rows : List (List Nat)) (box p q : List Nat), vs = [.ref a, .ref b, .ref c] ∧ H a = some (.lst (refs as)) ∧ LrsAt cS cE cL box H as rows ∧ Box3 box ∧ SqL K H b (p.map nv) ∧ P3 p ∧ SqL K H c (q.map nv) ∧ P3 q ∧ ∀ H' : Hp, Same H H' → Q (optV (minM (rows.map (alongM box p q)))) H'
section
variable {P : Program} {w : World} {K : Frg} {mg : Str → Option Value} {base : Heap} {cS cE cL cB : Addr}
theorem c_square_over (D : DefOk K mg "square_over" s_square_over ["laid", "start", "end"]) (T : Tx K mg cS cE cL cB) (c_spot_of : C8.Cal P w K mg base 2 "spot_of" (spSpot K cS) []) : C8.Cal P w K mg base 3 "square_over" (spSqOver K cS cE cL) [] := by
  obtain ⟨f, fd, F, b⟩ := D.ex
  refine C8.cal0 F b .nil sc_square_over (fun vs H Q E h => ?_) (fun cdv A outer s H vs Q E hr h => ⟨_, (pss_cons (ps_set (i := 3) sc_square_over.nd rfl (Or.inl rfl) (C8.pe_c c_spot_of hr (by omega) rfl (pa_cons (pe_fld (pv 0) rfl) (pa_cons (pv 1) pa_nil))))
    (pss_cons (ps_set (i := 4) sc_square_over.nd rfl (Or.inl rfl) (C8.pe_c c_spot_of hr (by omega) rfl (pa_cons (pe_fld (pv 0) rfl) (pa_cons (pv 2) pa_nil))))
    (pss_one (ps_ret (pe_op op_add (pe_op op_pow (pe_op op_sub (pe_ix ix_list (pv 4) pe_int (fun _ _ => rfl)) (pe_ix ix_list (pv 3) pe_int (fun _ _ => rfl))) pe_int) (pe_op op_pow (pe_op op_sub (pe_ix ix_list (pv 4) pe_int (fun _ _ => rfl)) (pe_ix ix_list (pv 3) pe_int (fun _ _ => rfl))) pe_int)))))), ?_⟩)
  · obtain ⟨a, b, c, box, row, p, q, rfl, _⟩ := h
    rfl
  · obtain ⟨a, b, c, box, row, p, q, rfl, ⟨dx, r, s0, s1, L, as, LI⟩, hb, hB, p3, hC, q3, k⟩ := h
    have G := (row_good hb.2 LI.ok).1
    have G0 := good_fst row
    have big : (80 * (row.length : Int)) + 40 ≤ 2 ^ 60 := by
      have := LI.len
      have : (80040 : Int) ≤ 2 ^ 60 := by decide
      omega
    have big0 : (0 : Int) + 40 ≤ 2 ^ 60 := by decide
    refine ⟨_, rfl, a, cL, dx, _, _, rfl, LI.at_, T.clL, T.aL.2.1, lr_lk2 .., _, rfl, s0, b, fstSc row, p, rfl, LI.fst_, hB, p3.1, G0.s1, G0.s2, G0.x1, G0.x2, fun H1 B t1 nB hB1 => ?_⟩
    have LI1 := LI.same t1
    refine ⟨_, rfl, a, cL, dx, _, _, rfl, LI1.at_, T.clL, T.aL.2.2.1, lr_lk3 .., _, rfl, s1, c, lastSc box row, q, rfl, LI1.last_, t1.seq hC, q3.1, G.s1, G.s2, G.x1, G.x2, fun H2 F t2 nF hF2 => ?_⟩
    have hB2 := t2 _ _ hB1
    have b1 := spot_bd p3.2 G0
    have b2 := spot_bd q3.2 G
    have x1 := b1.1.up big0
    have x2 := b1.2.up big0
    have y1 := b2.1.up big
    have y2 := b2.2.up big
    generalize hx : spotM (fstSc row) p = x at *
    generalize hy : spotM (lastSc box row) q = y at *
    unfold Bd at x1 x2 y1 y2
    refine ⟨_, rfl, _, _, _, _, rfl, rfl, SqL.of hF2, rfl, _, rfl, _, _, _, _, rfl, rfl, SqL.of hB2, rfl, _, _, rfl, rfl, _, _, rfl, rfl, ⟨by decide, by decide, ?_⟩, ?_⟩
    · have : (y.1 - x.1).natAbs < 2 ^ 64 := by omega
      exact this
    · refine ⟨_, rfl, _, _, _, _, rfl, rfl, SqL.of hF2, rfl, _, rfl, _, _, _, _, rfl, rfl, SqL.of hB2, rfl, _, _, rfl, rfl, _, _, rfl, rfl, ⟨by decide, by decide, ?_⟩, _, _, rfl, rfl, ?_⟩
      · have : (y.2 - x.2).natAbs < 2 ^ 64 := by omega
        exact this
      · have := k H2 (t1.trans t2)
        unfold sqB at this
        rw [hx, hy] at this
        exact this
theorem c_is_straight_way (D : DefOk K mg "is_straight_way" s_is_straight_way ["laid", "start", "end"]) (T : Tx K mg cS cE cL cB) (c_spot_of : C8.Cal P w K mg base 2 "spot_of" (spSpot K cS) []) (c_goes_through : C8.Cal P w K mg base 1 "goes_through" (spThrough K cE) []) : C8.Cal P w K mg base 3 "is_straight_way" (spStr K cS cE cL) [] := by
  obtain ⟨f, fd, F, b⟩ := D.ex
  refine C8.cal0 F b .nil sc_is_straight_way (fun vs H Q E h => ?_) (fun cdv A outer s H vs Q E hr h => ⟨_, (pss_cons (ps_set (i := 3) sc_is_straight_way.nd rfl (Or.inl rfl) (C8.pe_c c_spot_of hr (by omega) rfl (pa_cons (pe_fld (pv 0) rfl) (pa_cons (pv 1) pa_nil))))
    (pss_cons (ps_set (i := 4) sc_is_straight_way.nd rfl (Or.inl rfl) (C8.pe_c c_spot_of hr (by omega) rfl (pa_cons (pe_fld (pv 0) rfl) (pa_cons (pv 2) pa_nil))))
    (pss_cons (ps_for PassesOwn.never rfl (pi_list (pe_fld (pv 0) rfl)) (pg_name (i := 5) sc_is_straight_way.nd rfl (Or.inl rfl))
      (pss_one (ps_if (pt_not (pt_val (C8.pe_c c_goes_through hr (by omega) rfl (pa_cons (pv 3) (pa_cons (pv 4) (pa_cons (pv 5) pa_nil))))))
      (pss_one (ps_ret pe_bl))
      pss_nil)))
    (pss_one (ps_ret pe_bl))))), ?_⟩)
  · obtain ⟨a, b, c, box, row, p, q, rfl, _⟩ := h
    rfl
  · obtain ⟨a, b, c, box, row, p, q, rfl, ⟨dx, r, s0, s1, L, as, LI⟩, hb, hB, p3, hC, q3, k⟩ := h
    obtain ⟨G, GE⟩ := row_good hb.2 LI.ok
    have G0 := good_fst row
    have hl := LI.len
    have big : (80 * (row.length : Int)) + 40 ≤ 2 ^ 60 := by
      have : (80040 : Int) ≤ 2 ^ 60 := by decide
      omega
    have big0 : (0 : Int) + 40 ≤ 2 ^ 60 := by decide
    refine ⟨_, rfl, a, cL, dx, _, _, rfl, LI.at_, T.clL, T.aL.2.1, lr_lk2 .., _, rfl, s0, b, fstSc row, p, rfl, LI.fst_, hB, p3.1, G0.s1, G0.s2, G0.x1, G0.x2, fun H1 B t1 nB hB1 => ?_⟩
    have LI1 := LI.same t1
    refine ⟨_, rfl, a, cL, dx, _, _, rfl, LI1.at_, T.clL, T.aL.2.2.1, lr_lk3 .., _, rfl, s1, c, lastSc box row, q, rfl, LI1.last_, t1.seq hC, q3.1, G.s1, G.s2, G.x1, G.x2, fun H2 F t2 nF hF2 => ?_⟩
    have LI2 := LI1.same t2
    have hB2 := t2 _ _ hB1
    have sb := spot_bd p3.2 G0
    have sf := spot_bd q3.2 G
    have eS : strB box p q row = (edgesOf box row).all (throughM (spotM (fstSc row) p) (spotM (lastSc box row) q)) := rfl
    refine ⟨_, rfl, a, cL, dx, _, _, rfl, LI2.at_, T.clL, T.aL.2.2.2, lr_lk4 .., L, rfl, ⟨_, SqL.of LI2.edg_⟩, ?_⟩
    refine for_list (K := K) (a := L) (xs := refs as) (fun j σ H' => ∃ v10, σ = [some (.ref a), some (.ref b), some (.ref c), some (.ref B), some (.ref F), v10] ∧ H' = H2 ∧ ((edgesOf box row).take j).all (throughM (spotM (fstSc row) p) (spotM (lastSc box row) q)) = true)
      ⟨none, rfl, rfl, rfl⟩ (fun j σ H' _ h => by obtain ⟨_, _, rfl, _⟩ := h; exact SqL.of LI2.edg_) ?_ ?_
    · rintro j v σ H' hj ⟨v10, rfl, rfl, inv⟩
      obtain ⟨x, hx, rfl⟩ := refs_at hj
      obtain ⟨e, he, hxe⟩ := paired_at LI2.edges_ hx
      have hem := GE e (List.mem_of_getElem? he)
      refine ⟨_, rfl, _, rfl, _, rfl, B, F, x, _, _, e, rfl, SqL.of hB2, SqL.of hF2, hxe, sb.1.up big0, sb.2.up big0, sf.1.up big, sf.2.up big, hem.1.up (by omega), hem.2.up (by omega), _, rfl, ?_⟩
      refine ite2 (fun c3 => ?_) (fun c3 => ?_)
      · have c3 : throughM (spotM (fstSc row) p) (spotM (lastSc box row) q) e = false := by simpa using c3
        have ef : strB box p q row = false := by
          rw [eS, Bool.eq_false_iff]
          intro z
          have := List.all_eq_true.mp z e (List.mem_of_getElem? he)
          rw [c3] at this
          cases this
        have := k _ (t1.trans t2)
        rw [ef] at this
        exact this
      · have c3 : throughM (spotM (fstSc row) p) (spotM (lastSc box row) q) e = true := by simpa using c3
        refine ⟨_, rfl, rfl, ?_⟩
        rw [take_snoc he, List.all_append, inv]
        show (true && (throughM (spotM (fstSc row) p) (spotM (lastSc box row) q) e && true)) = true
        rw [c3]
        rfl
    · rintro σ H' ⟨v10, rfl, rfl, inv⟩
      have el : (refs as).length = (edgesOf box row).length := by rw [refs_len, LI2.edges_.length]
      rw [el, List.take_length] at inv
      have kk := k _ (t1.trans t2)
      rw [eS, inv] at kk
      exact kk
theorem c_shortest_square (D : DefOk K mg "shortest_square" s_shortest_square ["laid_rows", "start", "end"]) (T : Tx K mg cS cE cL cB) (c_square_over : C8.Cal P w K mg base 3 "square_over" (spSqOver K cS cE cL) [])
    (c_is_straight_way : C8.Cal P w K mg base 3 "is_straight_way" (spStr K cS cE cL) []) : C8.Cal P w K mg base 4 "shortest_square" (spShort K cS cE cL) [] := by
  obtain ⟨f, fd, F, b⟩ := D.ex
  refine C8.cal0 F b .nil sc_shortest_square (fun vs H Q E h => ?_) (fun cdv A outer s H vs Q E hr h => ⟨_, (pss_cons (ps_set (i := 3) sc_shortest_square.nd rfl (Or.inl rfl) pe_non)
    (pss_cons (ps_for PassesOwn.never rfl (pi_list (pv 0)) (pg_name (i := 4) sc_shortest_square.nd rfl (Or.inl rfl))
      (pss_cons (ps_set (i := 5) sc_shortest_square.nd rfl (Or.inl rfl) (C8.pe_c c_square_over hr (by omega) rfl (pa_cons (pv 4) (pa_cons (pv 1) (pa_cons (pv 2) pa_nil)))))
    (pss_one (ps_if (PW.pt (pw_and (PW.pt (pw_or (pt_cmpR op_isN (pv 3) pe_non (nomark _)) (pw_or1 (pt_cmpR op_lt (pv 5) (pv 3) (nomark _))))) (pw_and1 (pt_val (C8.pe_c c_is_straight_way hr (by omega) rfl (pa_cons (pv 4) (pa_cons (pv 1) (pa_cons (pv 2) pa_nil))))))))
      (pss_one (ps_set (i := 3) sc_shortest_square.nd rfl (Or.inl rfl) (pv 5)))
      pss_nil))))
    (pss_one (ps_ret (pv 3))))), ?_⟩)
  · obtain ⟨a, b, c, as, rows, box, p, q, rfl, _⟩ := h
    rfl
  · obtain ⟨a, b, c, as, rows, box, p, q, rfl, hA, hR, hb, hB, p3, hC, q3, k⟩ := h
    refine ⟨_, rfl, a, rfl, ⟨_, SqL.of hA⟩, ?_⟩
    refine for_list (K := K) (a := a) (xs := refs as) (fun j σ H' => ∃ v5 v6, σ = [some (.ref a), some (.ref b), some (.ref c), some (optV (minM ((rows.take j).map (alongM box p q)))), v5, v6] ∧ Same H H')
      ⟨none, none, rfl, Same.refl _⟩ (fun j σ H' _ h => by obtain ⟨_, _, _, s1⟩ := h; exact SqL.of (s1 _ _ hA)) ?_ ?_
    · rintro j v σ H' hj ⟨v5, v6, rfl, s1⟩
      obtain ⟨x, hx, rfl⟩ := refs_at hj
      obtain ⟨row, hrow, lr⟩ := paired_at hR hx
      have hne : row ≠ [] := by
        obtain ⟨_, _, _, _, _, _, LI⟩ := lr
        exact LI.ok.ne
      have em : minM ((rows.take (j + 1)).map (alongM box p q)) = omin (minM ((rows.take j).map (alongM box p q))) (alongM box p q row) := by
        rw [take_snoc hrow, List.map_append]
        unfold minM
        rw [List.foldl_append]
        rfl
      rw [along_str hne] at em
      refine ⟨_, rfl, _, rfl, _, rfl, x, b, c, box, row, p, q, rfl, lr.same s1, hb, s1.seq hB, p3, s1.seq hC, q3, fun H2 s2 => ?_⟩
      have s12 := s1.trans s2
      refine ⟨_, rfl, rfl, _, rfl, ?_⟩
      have fin : ∀ H3 : Hp, Same H2 H3 → ∀ bb : Bool, (bb = strB box p q row) → (match minM ((rows.take j).map (alongM box p q)) with | none => True | some d => sqB box p q row < d) →
          (if bb = true then (∃ v5 v6, ([some (.ref a), some (.ref b), some (.ref c), some (.int (sqB box p q row)), some (.ref x), some (.int (sqB box p q row))] : L2.St) = [some (.ref a), some (.ref b), some (.ref c), some (optV (minM ((rows.take (j + 1)).map (alongM box p q)))), v5, v6] ∧ Same H H3)
            else (∃ v5 v6, ([some (.ref a), some (.ref b), some (.ref c), some (optV (minM ((rows.take j).map (alongM box p q)))), some (.ref x), some (.int (sqB box p q row))] : L2.St) = [some (.ref a), some (.ref b), some (.ref c), some (optV (minM ((rows.take (j + 1)).map (alongM box p q)))), v5, v6] ∧ Same H H3)) := by
        intro H3 s3 bb hbb hlt
        rw [em, hbb]
        by_cases cs : strB box p q row = true
        · rw [if_pos cs, if_pos cs]
          refine ⟨some (.ref x), some (.int (sqB box p q row)), ?_, s12.trans s3⟩
          cases e : minM ((rows.take j).map (alongM box p q)) with
          | none => rfl
          | some d =>
            rw [e] at hlt
            have : omin (some d) (some (sqB box p q row)) = some (sqB box p q row) := if_pos hlt
            rw [this]
            rfl
        · rw [if_neg cs, if_neg cs]
          refine ⟨some (.ref x), some (.int (sqB box p q row)), ?_, s12.trans s3⟩
          cases minM ((rows.take j).map (alongM box p q)) <;> rfl
      cases e : minM ((rows.take j).map (alongM box p q)) with
      | none =>
        rw [e] at fin
        rw [show decide (optV none = V.non) = true from decide_eq_true rfl]
        refine iteT (iteT ⟨_, rfl, _, rfl, _, rfl, x, b, c, box, row, p, q, rfl, lr.same s12, hb, s12.seq hB, p3, s12.seq hC, q3, fun H3 s3 => ⟨_, rfl, ?_⟩⟩)
        have z := fin H3 s3 _ rfl trivial
        refine ite2 (fun c3 => ?_) (fun c3 => ?_)
        · rw [if_pos c3] at z
          exact ⟨_, rfl, z⟩
        · rw [if_neg c3] at z
          exact z
      | some d =>
        rw [e] at fin
        rw [show decide (optV (some d) = V.non) = false from decide_eq_false (fun z => by cases z)]
        refine iteF ⟨_, rfl, _, rfl, _, _, rfl, rfl, _, rfl, ?_⟩
        refine ite2 (fun c2 => ?_) (fun c2 => ?_)
        · have c2 : sqB box p q row < d := of_decide_eq_true c2
          refine ⟨_, rfl, _, rfl, _, rfl, x, b, c, box, row, p, q, rfl, lr.same s12, hb, s12.seq hB, p3, s12.seq hC, q3, fun H3 s3 => ⟨_, rfl, ?_⟩⟩
          have z := fin H3 s3 _ rfl c2
          refine ite2 (fun c3 => ?_) (fun c3 => ?_)
          · rw [if_pos c3] at z
            exact ⟨_, rfl, z⟩
          · rw [if_neg c3] at z
            exact z
        · have c2 : ¬ sqB box p q row < d := fun z => c2 (decide_eq_true z)
          refine ⟨some (.ref x), some (.int (sqB box p q row)), ?_, s12⟩
          have eo : optV (omin (some d) (if strB box p q row = true then some (sqB box p q row) else none)) = optV (some d) := by
            split
            · have : omin (some d) (some (sqB box p q row)) = some d := if_neg c2
              rw [this]
            · rfl
          rw [em, e, eo]
          rfl
    · rintro σ H' ⟨v5, v6, rfl, s1⟩
      have el : (refs as).length = rows.length := by rw [refs_len, hR.length]
      rw [el, List.take_length]
      exact ⟨_, rfl, k _ s1⟩
end
end SF

/-! ## WB -/
set_option Elab.async false
set_option maxRecDepth 100000
set_option maxHeartbeats 2000000
namespace SF
open PySem PySem.Spec PyProof.Rows L2
abbrev s_points_on : Stmt := top 10
abbrev N_points_on : List Str := ["lengths", "points", "x", "y", "z"]
theorem sc_points_on : FnScope N_points_on ["lengths"] (C8.fnScope s_points_on) := C8.fnScope_by (by decide +kernel)
abbrev s_told_list : Stmt := top 36
abbrev N_told_list : List Str := ["numbers"]
theorem sc_told_list : FnScope N_told_list ["numbers"] (C8.fnScope s_told_list) := C8.fnScope_by (by decide +kernel)
/-! ### the points -/
def okP (box p : List Nat) : Bool := !(Sy73.facesOf box p).isEmpty
def zsM (box : List Nat) (x y k : Nat) : List (List Nat) := ((List.range k).map fun z => [x, y, z]).filter (okP box)
def ysM (box : List Nat) (x k : Nat) : List (List Nat) := (List.range k).flatMap fun y => zsM box x y (Sy73.nth box 2 + 1)
def xsM (box : List Nat) (k : Nat) : List (List Nat) := (List.range k).flatMap fun x => ysM box x (Sy73.nth box 1 + 1)
theorem points_xs (box : List Nat) : Sy73.points box = xsM box (Sy73.nth box 0 + 1) := by
  unfold Sy73.points xsM ysM zsM
  rw [List.filter_flatMap]
  congr 1
  funext x
  rw [List.filter_flatMap]
  rfl
theorem zs_succ (box : List Nat) (x y k : Nat) : zsM box x y (k + 1) = zsM box x y k ++ (if okP box [x, y, k] = true then [[x, y, k]] else []) := by
  unfold zsM
  rw [List.range_succ, List.map_append, List.filter_append]
  by_cases h : okP box [x, y, k] = true
  · rw [if_pos h]
    show _ ++ List.filter (okP box) [[x, y, k]] = _
    rw [List.filter_cons_of_pos h]
    rfl
  · rw [if_neg h]
    show _ ++ List.filter (okP box) [[x, y, k]] = _
    rw [List.filter_cons_of_neg h]
    rfl
theorem ys_succ (box : List Nat) (x k : Nat) : ysM box x (k + 1) = ysM box x k ++ zsM box x k (Sy73.nth box 2 + 1) := by
  unfold ysM
  rw [List.range_succ, List.flatMap_append]
  simp
theorem xs_succ (box : List Nat) (k : Nat) : xsM box (k + 1) = xsM box k ++ ysM box k (Sy73.nth box 1 + 1) := by
  unfold xsM
  rw [List.range_succ, List.flatMap_append]
  simp
theorem zs_len (box : List Nat) (x y k : Nat) : (zsM box x y k).length ≤ k := by
  unfold zsM
  refine Nat.le_trans (List.length_filter_le _ _) ?_
  rw [List.length_map, List.length_range]
  exact Nat.le_refl _
theorem ys_len {box : List Nat} (hb : ∀ i, Sy73.nth box i ≤ 40) (x : Nat) : ∀ k, (ysM box x k).length ≤ k * 41
  | 0 => by simp [ysM]
  | k + 1 => by
    have ih := ys_len hb x k
    have h := zs_len box x k (Sy73.nth box 2 + 1)
    have h2 := hb 2
    rw [ys_succ, List.length_append]
    omega
theorem xs_len {box : List Nat} (hb : ∀ i, Sy73.nth box i ≤ 40) : ∀ k, (xsM box k).length ≤ k * 1681
  | 0 => by simp [xsM]
  | k + 1 => by
    have ih := xs_len hb k
    have h := ys_len hb k (Sy73.nth box 1 + 1)
    have h2 := hb 1
    rw [xs_succ, List.length_append]
    omega
theorem facesM_in {box p : List Nat} (h : ∀ k, k < 3 → Sy73.nth p k ≤ Sy73.nth box k) : facesM box p = Sy73.facesOf box p :=
  if_pos (List.all_eq_true.mpr fun k hk => decide_eq_true (h k (List.mem_range.mp hk)))
def spPoints (K : Frg) : Sp := fun vs H Q _ => ∃ (a : Addr) (box : List Nat), vs = [.ref a] ∧ SqL K H a (box.map nv) ∧ Box3 box ∧ ∀ (H' : Hp) (q : Addr) (as : List Addr), Same H H' → H q = none → H' q = some (.lst (refs as)) → RowsAt H' as (Sy73.points box) → Q (.ref q) H'
def spTold (K : Frg) : Sp := fun vs H Q _ => ∃ (a : Addr) (xs : List V), vs = [.ref a] ∧ H a = some (.lst xs) ∧ xs.length ≤ 1000 ∧ ∀ (H' : Hp) (q : Addr), Same H H' → H q = none → H' q = some (.lst (.int xs.length :: xs)) → Q (.ref q) H'
section
variable {P : Program} {w : World} {K : Frg} {mg : Str → Option Value} {base : Heap} {cS cE cL cB : Addr}
theorem c_told_list (D : DefOk K mg "told_list" s_told_list ["numbers"]) (T : Tx K mg cS cE cL cB) : C8.Cal P w K mg base 1 "told_list" (spTold K) [] := by
  obtain ⟨f, fd, F, b⟩ := D.ex
  refine C8.cal0 F b .nil sc_told_list (fun vs H Q E h => ?_) (fun cdv A outer s H vs Q E hr h => ⟨_, (pss_one (ps_ret (pe_op op_cat (pe_lst (pa_cons (pe_callB call_len_seq (by rfl) T.n_len PySem.boot_len (pa_cons (pv 0) pa_nil)) pa_nil)) (pv 0)))), ?_⟩)
  · obtain ⟨a, xs, rfl, _⟩ := h
    rfl
  · obtain ⟨a, xs, rfl, hA, hl, k⟩ := h
    refine ⟨_, rfl, a, _, rfl, .inl (SqL.of hA), fits (m := 1) (Nat.le_refl _), fun p hp => ⟨_, rfl, ?_⟩⟩
    have t1 := same_upd (Same.refl H) hp (o := .lst [.int (xs.length : Int)])
    refine ⟨p, a, [.int (xs.length : Int)], xs, rfl, rfl, upd_same, t1 _ _ hA, fits (m := 1001) (show 1 + xs.length ≤ 1001 by omega), fun r hr => ?_⟩
    exact k _ _ (same_upd t1 (t1.free hr)) (t1.free hr) upd_same
theorem c_points_on (D : DefOk K mg "points_on" s_points_on ["lengths"]) (T : Tx K mg cS cE cL cB) (c_faces_at : C8.Cal P w K mg base 3 "faces_at" (spFaces K) []) : C8.Cal P w K mg base 4 "points_on" (spPoints K) [] := by
  obtain ⟨f, fd, F, b⟩ := D.ex
  refine C8.cal0 F b .nil sc_points_on (fun vs H Q E h => ?_) (fun cdv A outer s H vs Q E hr h => ⟨_, (pss_cons (ps_set (i := 1) sc_points_on.nd rfl (Or.inl rfl) (pe_lst pa_nil))
    (pss_cons (ps_for PassesOwn.never rfl (pi_range1 rfl T.n_range (pa_cons (pe_op op_add (pe_ix ix_list (pv 0) pe_int (fun _ _ => rfl)) pe_int) pa_nil)) (pg_name (i := 2) sc_points_on.nd rfl (Or.inl rfl))
      (pss_one (ps_for PassesOwn.never rfl (pi_range1 rfl T.n_range (pa_cons (pe_op op_add (pe_ix ix_list (pv 0) pe_int (fun _ _ => rfl)) pe_int) pa_nil)) (pg_name (i := 3) sc_points_on.nd rfl (Or.inl rfl))
      (pss_one (ps_for PassesOwn.never rfl (pi_range1 rfl T.n_range (pa_cons (pe_op op_add (pe_ix ix_list (pv 0) pe_int (fun _ _ => rfl)) pe_int) pa_nil)) (pg_name (i := 4) sc_points_on.nd rfl (Or.inl rfl))
      (pss_one (ps_if (pt_cmpR op_gt (pe_callB call_len_seq (by rfl) T.n_len PySem.boot_len (pa_cons (C8.pe_c c_faces_at hr (by omega) rfl (pa_cons (pv 0) (pa_cons (pe_lst (pa_cons (pv 2) (pa_cons (pv 3) (pa_cons (pv 4) pa_nil)))) pa_nil))) pa_nil)) pe_int (nomark _))
      (pss_one (ps_expr (pe_bm PySem.F.plainAttrs_list PySem.F.slot_list_append PySem.F.type_list_append mt_append (pv 1) (pa_cons (pe_lst (pa_cons (pv 2) (pa_cons (pv 3) (pa_cons (pv 4) pa_nil)))) pa_nil))))
      pss_nil)))))))
    (pss_one (ps_ret (pv 1))))), ?_⟩)
  · obtain ⟨a, box, rfl, _⟩ := h
    rfl
  · obtain ⟨a, box, rfl, hA, hb, q⟩ := h
    have h40 := hb.2
    have nB : ∀ k, Sy73.nth box k = box.getD k 0 := fun _ => rfl
    refine ⟨Nat.zero_le _, fun R hR => ?_⟩
    have s0 := same_upd (Same.refl H) hR (o := .lst [])
    have bnd : ∀ n : Nat, n ≤ 40 → -(2 ^ 62) ≤ ((n : Int) + 1) ∧ ((n : Int) + 1) < 2 ^ 62 := fun n h => by
      constructor <;> omega
    have tn : ∀ n : Nat, ((n : Int) + 1).toNat = n + 1 := fun n => by omega
    have hn := fun k => hb.2 k
    refine ⟨_, rfl, _, _, _, _, rfl, rfl, s0.seq hA, at_nv (l := box) (i := 0) (by rw [hb.1]; decide), _, _, rfl, rfl, _, rfl, (bnd _ (hn 0)).1, (bnd _ (hn 0)).2, ?_⟩
    have e0 : ((nv (box.getD 0 0)) = V.int ((Sy73.nth box 0 : Nat) : Int)) := rfl
    rw [show ((box.getD 0 0 : Nat) : Int) = ((Sy73.nth box 0 : Nat) : Int) from rfl, tn]
    refine for_range (lo := 0) (n := Sy73.nth box 0 + 1) (fun i σ H' => ∃ v2 v3 v4 as, σ = [some (.ref a), some (.ref R), v2, v3, v4] ∧ Same H H' ∧ H' R = some (.lst (refs as)) ∧ RowsAt H' as (xsM box i)) ⟨none, none, none, [], rfl, s0, upd_same, .nil⟩ ?_ ?_
    · rintro x σ H1 hx ⟨v2, v3, v4, as1, rfl, s1, hR1, inv1⟩
      rw [show (0 : Int) + (x : Int) = (x : Int) by omega]
      refine ⟨_, rfl, _, _, _, _, rfl, rfl, s1.seq hA, at_nv (l := box) (i := 1) (by rw [hb.1]; decide), _, _, rfl, rfl, _, rfl, (bnd _ (hn 1)).1, (bnd _ (hn 1)).2, ?_⟩
      rw [show ((box.getD 1 0 : Nat) : Int) = ((Sy73.nth box 1 : Nat) : Int) from rfl, tn]
      refine for_range (lo := 0) (n := Sy73.nth box 1 + 1) (fun j σ H' => ∃ v3 v4 as, σ = [some (.ref a), some (.ref R), some (nv x), v3, v4] ∧ Same H H' ∧ H' R = some (.lst (refs as)) ∧ RowsAt H' as (xsM box x ++ ysM box x j)) ⟨v3, v4, as1, rfl, s1, hR1, by simpa [ysM] using inv1⟩ ?_ ?_
      · rintro y σ H2 hy ⟨v3, v4, as2, rfl, s2, hR2, inv2⟩
        rw [show (0 : Int) + (y : Int) = (y : Int) by omega]
        refine ⟨_, rfl, _, _, _, _, rfl, rfl, s2.seq hA, at_nv (l := box) (i := 2) (by rw [hb.1]; decide), _, _, rfl, rfl, _, rfl, (bnd _ (hn 2)).1, (bnd _ (hn 2)).2, ?_⟩
        rw [show ((box.getD 2 0 : Nat) : Int) = ((Sy73.nth box 2 : Nat) : Int) from rfl, tn]
        refine for_range (lo := 0) (n := Sy73.nth box 2 + 1) (fun k σ H' => ∃ v4 as, σ = [some (.ref a), some (.ref R), some (nv x), some (nv y), v4] ∧ Same H H' ∧ H' R = some (.lst (refs as)) ∧ RowsAt H' as ((xsM box x ++ ysM box x y) ++ zsM box x y k)) ⟨v4, as2, rfl, s2, hR2, by simpa [zsM] using inv2⟩ ?_ ?_
        · rintro z σ H3 hz ⟨v4, as3, rfl, s3, hR3, inv3⟩
          rw [show (0 : Int) + (z : Int) = (z : Int) by omega]
          refine ⟨_, rfl, _, rfl, _, rfl, _, rfl, fits (m := 3) (Nat.le_refl _), fun p hp => ?_⟩
          have s4 := same_upd s3 (s3.free hp) (o := .lst [nv x, nv y, nv z])
          have hin : ∀ k, k < 3 → Sy73.nth [x, y, z] k ≤ Sy73.nth box k := by
            intro k hk
            match k, hk with
            | 0, _ => show x ≤ _; omega
            | 1, _ => show y ≤ _; omega
            | 2, _ => show z ≤ _; omega
          refine ⟨a, p, box, [x, y, z], rfl, s4.seq hA, SqL.of upd_same, hb.1, rfl, fun H5 l s5 nl hl => ?_⟩
          rw [facesM_in hin] at hl
          have s35 : Same H3 H5 := (same_upd (Same.refl _) hp).trans s5
          have s05 := s3.trans s35
          have hR5 := s35 _ _ hR3
          refine ⟨l, _, rfl, .inl (SqL.of hl), _, _, rfl, rfl, _, rfl, ?_⟩
          have ec : decide (((List.map nv (Sy73.facesOf box [x, y, z])).length : Int) > 0) = okP box [x, y, z] := by
            unfold okP
            rw [List.length_map]
            cases Sy73.facesOf box [x, y, z] with
            | nil => rfl
            | cons c r =>
              refine decide_eq_true ?_
              rw [List.length_cons]
              omega
          rw [ec]
          refine ite2 (fun c => ?_) (fun c => ?_)
          · refine ⟨_, rfl, .inl ⟨rfl, _, SqL.of hR5⟩, _, rfl, _, rfl, _, rfl, fits (m := 3) (Nat.le_refl _), fun t ht => ?_⟩
            have s6 := same_upd s05 (s05.free ht) (o := .lst [nv x, nv y, nv z])
            have tR : R ≠ t := ne_of_none hR5 ht
            refine ⟨R, refs as3, .ref t, rfl, rfl, by rw [upd_ne tR]; exact hR5, ?_, ?_⟩
            · have l1 := inv3.length
              have l2 := xs_len h40 x
              have l3 := ys_len h40 x y
              have l4 := zs_len box x y z
              have n0 := hn 0
              have n1 := hn 1
              have n2 := hn 2
              rw [List.length_append, List.length_append] at l1
              have l5 : x * 1681 ≤ 40 * 1681 := Nat.mul_le_mul_right _ (by omega)
              have l6 : y * 41 ≤ 40 * 41 := Nat.mul_le_mul_right _ (by omega)
              rw [refs_len]
              exact Nat.lt_of_le_of_lt (show as3.length ≤ 100000 by omega) (by decide)
            · refine ⟨_, as3 ++ [t], rfl, same_upd s6 hR, by rw [upd_same, refs_snoc], ?_⟩
              rw [zs_succ, if_pos c, ← List.append_assoc]
              refine paired_app ?_ ?_
              · refine RowsAt.put ?_ (as := as3) (by rw [upd_ne tR]; exact hR5)
                exact inv3.same (s35.trans (same_upd (Same.refl _) ht))
              · refine .cons ⟨List.cons_ne_nil _ _, ?_⟩ .nil
                rw [upd_ne (Ne.symm tR)]
                exact upd_same
          · refine ⟨_, as3, rfl, s05, hR5, ?_⟩
            rw [zs_succ, if_neg c, List.append_nil]
            exact inv3.same s35
        · rintro σ H3 ⟨v4, as3, rfl, s3, hR3, inv3⟩
          exact ⟨_, _, as3, rfl, s3, hR3, by rw [ys_succ, ← List.append_assoc]; exact inv3⟩
      · rintro σ H2 ⟨v3, v4, as2, rfl, s2, hR2, inv2⟩
        exact ⟨_, _, _, as2, rfl, s2, hR2, by rw [xs_succ]; exact inv2⟩
    · rintro σ H1 ⟨v2, v3, v4, as1, rfl, s1, hR1, inv1⟩
      refine ⟨_, rfl, q _ _ as1 s1 hR hR1 ?_⟩
      rw [points_xs]
      exact inv1
end
end SF

/-! ## WC -/
set_option Elab.async false
set_option maxRecDepth 100000
set_option maxHeartbeats 2000000
namespace SF
open PySem PySem.Spec PyProof.Rows L2 LamX
abbrev s_Box___init__ : Stmt := inC (top 35) 0
abbrev N_Box___init__ : List Str := ["self"]
theorem sc_Box___init__ : FnScope N_Box___init__ ["self"] (C8.fnScope s_Box___init__) := C8.fnScope_by (by decide +kernel)
abbrev s_answer_begins : Stmt := top 37
abbrev N_answer_begins : List Str := ["box", "lengths"]
theorem sc_answer_begins : FnScope N_answer_begins ["box", "lengths"] (C8.fnScope s_answer_begins) := C8.fnScope_by (by decide +kernel)
abbrev s_answer_spider : Stmt := top 38
abbrev N_answer_spider : List Str := ["box", "point", "faces"]
theorem sc_answer_spider : FnScope N_answer_spider ["box", "point"] (C8.fnScope s_answer_spider) := C8.fnScope_by (by decide +kernel)
abbrev s_answer_fly : Stmt := top 39
abbrev N_answer_fly : List Str := ["box", "point", "faces"]
theorem sc_answer_fly : FnScope N_answer_fly ["box", "point"] (C8.fnScope s_answer_fly) := C8.fnScope_by (by decide +kernel)
abbrev s_spider_faces : Stmt := top 40
abbrev N_spider_faces : List Str := ["box"]
theorem sc_spider_faces : FnScope N_spider_faces ["box"] (C8.fnScope s_spider_faces) := C8.fnScope_by (by decide +kernel)
abbrev s_fly_faces : Stmt := top 41
abbrev N_fly_faces : List Str := ["box"]
theorem sc_fly_faces : FnScope N_fly_faces ["box"] (C8.fnScope s_fly_faces) := C8.fnScope_by (by decide +kernel)
/-! ### the box -/
structure StOk (st : Sy73.St) : Prop where
  b3 : st.box.length = 3
  b1 : ∀ i, i < 3 → 1 ≤ Sy73.nth st.box i
  b40 : ∀ i, Sy73.nth st.box i ≤ 40
  s3 : st.spider.length = 3
  sp : Pts st.box st.spider
  f3 : st.fly.length = 3
  fp : Pts st.box st.fly
theorem nth_out {l : List Nat} (h : l.length = 3) {i : Nat} (hi : ¬ i < 3) : Sy73.nth l i = 0 := by
  unfold Sy73.nth
  rw [List.getD_eq_getElem?_getD, List.getElem?_eq_none (by omega)]
  rfl
theorem p3_of {box p : List Nat} (hb : ∀ i, Sy73.nth box i ≤ 40) (h3 : p.length = 3) (h : ∀ i, i < 3 → Sy73.nth p i ≤ Sy73.nth box i) : P3 p := ⟨h3, fun i => by
  by_cases c : i < 3
  · exact Nat.le_trans (h i c) (hb i)
  · rw [nth_out h3 c]
    exact Nat.zero_le _⟩
theorem StOk.bx {st : Sy73.St} (h : StOk st) : Box3 st.box := ⟨h.b3, h.b40⟩
theorem StOk.sP {st : Sy73.St} (h : StOk st) : P3 st.spider := p3_of h.b40 h.s3 h.sp.le
theorem StOk.fP {st : Sy73.St} (h : StOk st) : P3 st.fly := p3_of h.b40 h.f3 h.fp.le
def bxF (l s f : Addr) : List (Str × V) := [("lengths", .ref l), ("spider", .ref s), ("fly", .ref f)]
theorem bx_lk1 (l s f : Addr) : (bxF l s f).lookup ("lengths" : Str) = some (.ref l) := lk_here
theorem bx_lk2 (l s f : Addr) : (bxF l s f).lookup ("spider" : Str) = some (.ref s) := (lk_past (by decide +kernel)).trans lk_here
theorem bx_lk3 (l s f : Addr) : (bxF l s f).lookup ("fly" : Str) = some (.ref f) := (lk_past (by decide +kernel)).trans ((lk_past (by decide +kernel)).trans lk_here)
theorem bx_p1 (l s f x : Addr) : putF "lengths" (.ref x) (bxF l s f) = bxF x s f := put_here
theorem bx_p2 (l s f x : Addr) : putF "spider" (.ref x) (bxF l s f) = bxF l x f := by
  show putF "spider" (.ref x) [("lengths", .ref l), ("spider", .ref s), ("fly", .ref f)] = _
  rw [put_past (by decide +kernel), put_here]
  rfl
theorem bx_p3 (l s f x : Addr) : putF "fly" (.ref x) (bxF l s f) = bxF l s x := by
  show putF "fly" (.ref x) [("lengths", .ref l), ("spider", .ref s), ("fly", .ref f)] = _
  rw [put_past (by decide +kernel), put_past (by decide +kernel), put_here]
  rfl
structure BxIn (cB : Addr) (H : Hp) (B : Addr) (st : Sy73.St) (dx l s f : Addr) : Prop where
  at_ : H B = some (.ins cB dx (bxF l s f))
  l_ : H l = some (.lst (st.box.map nv))
  s_ : H s = some (.lst (st.spider.map nv))
  f_ : H f = some (.lst (st.fly.map nv))
def BxAt (cB : Addr) (H : Hp) (B : Addr) (st : Sy73.St) : Prop := ∃ dx l s f, BxIn cB H B st dx l s f
theorem BxIn.same {cB : Addr} {H H' : Hp} {B : Addr} {st : Sy73.St} {dx l s f : Addr} (h : BxIn cB H B st dx l s f) (k : Same H H') : BxIn cB H' B st dx l s f := ⟨k _ _ h.at_, k _ _ h.l_, k _ _ h.s_, k _ _ h.f_⟩
theorem BxAt.same {cB : Addr} {H H' : Hp} {B : Addr} {st : Sy73.St} (h : BxAt cB H B st) (k : Same H H') : BxAt cB H' B st := by
  obtain ⟨dx, l, s, f, h⟩ := h
  exact ⟨dx, l, s, f, h.same k⟩
/-- what an answer keeps: all but the box and the tables of code objects -/
def Kp (T : List (Addr × Str)) (B : Addr) (H H' : Hp) : Prop := (∀ b o, b ≠ B → H b = some o → (∀ ps, o ≠ .tbl ps) → H' b = some o) ∧ Tabs T H'
theorem kp_same {T : List (Addr × Str)} {B : Addr} {H H' : Hp} (t : Tabs T H) (s : Same H H') : Kp T B H H' := ⟨fun b o _ e _ => s b o e, t.ext s⟩
theorem tabs_put {T : List (Addr × Str)} {H : Hp} {B C dx : Addr} {fs fs' : List (Str × V)} (h : H B = some (.ins C dx fs)) (t : Tabs T H) : Tabs T (upd H B (.ins C dx fs')) := fun p hp => by
  obtain ⟨ps, h1, h2, h3⟩ := t p hp
  have n1 : p.1 ≠ B := fun z => by
    rw [z, h] at h1
    cases h1
  refine ⟨ps, by rw [upd_ne n1]; exact h1, h2, fun pos cv hc => ?_⟩
  obtain ⟨c, e1, e2⟩ := h3 pos cv hc
  have n2 : c ≠ B := fun z => by
    rw [z, h] at e2
    unfold CodeO at e2
    cases e2
  exact ⟨c, e1, by rw [upd_ne n2]; exact e2⟩
theorem Kp.put {T : List (Addr × Str)} {H H' : Hp} {B C dx : Addr} {fs fs' : List (Str × V)} (k : Kp T B H H') (h : H' B = some (.ins C dx fs)) : Kp T B H (upd H' B (.ins C dx fs')) :=
  ⟨fun b o nb e n => by rw [upd_ne nb]; exact k.1 b o nb e n, tabs_put h k.2⟩
theorem Kp.then {T : List (Addr × Str)} {H H1 H' : Hp} {B : Addr} (k : Kp T B H H1) (s : Same H1 H') : Kp T B H H' := ⟨fun b o nb e n => s _ _ (k.1 b o nb e n), k.2.ext s⟩
/-- what the box holds then: what it held, what was handed, what's new -/
def Hold (cB h B : Addr) (H H' : Hp) : Prop := ∀ dx l s f, H B = some (.ins cB dx (bxF l s f)) → ∃ l' s' f', H' B = some (.ins cB dx (bxF l' s' f')) ∧ ∀ y, (y = l' ∨ y = s' ∨ y = f') → y = h ∨ H y = none ∨ y = l ∨ y = s ∨ y = f
def Kq (T : List (Addr × Str)) (cB h B : Addr) (H H' : Hp) : Prop := Kp T B H H' ∧ Hold cB h B H H'
theorem hold_keep {cB h B : Addr} {H H' : Hp} (k : ∀ dx l s f, H B = some (.ins cB dx (bxF l s f)) → H' B = some (.ins cB dx (bxF l s f))) : Hold cB h B H H' := fun dx l s f e => ⟨l, s, f, k dx l s f e, fun _ hy => .inr (.inr hy)⟩
theorem kq_same {T : List (Addr × Str)} {cB h B : Addr} {H H' : Hp} (t : Tabs T H) (s : Same H H') : Kq T cB h B H H' := ⟨kp_same t s, hold_keep fun _ _ _ _ e => s _ _ e⟩
theorem bx_inj {cB dx dx' l s f l' s' f' : Addr} (e : (some (HO.ins cB dx (bxF l s f)) : Option HO) = some (.ins cB dx' (bxF l' s' f'))) : dx = dx' ∧ l = l' ∧ s = s' ∧ f = f' := by
  have e := Option.some.inj e
  injection e with _ e1 e2
  unfold bxF at e2
  injection e2 with h1 e2
  injection e2 with h2 e2
  injection e2 with h3 _
  injection h1 with _ h1
  injection h2 with _ h2
  injection h3 with _ h3
  exact ⟨e1, V.ref.inj h1, V.ref.inj h2, V.ref.inj h3⟩
def outV (a : Sy73.Ans) : List V := (Sy73Neutral.out a).map V.int
def AnsSp (T : List (Addr × Str)) (cB : Addr) (R : Sy73.Call → List Nat → Prop) : Sp := fun vs H Q _ => ∃ (B h : Addr) (st : Sy73.St) (c : Sy73.Call) (hs : List Nat), vs = [.ref B, .ref h] ∧ BxAt cB H B st ∧ StOk st ∧ H h = some (.lst (hs.map nv)) ∧ R c hs ∧ Tabs T H ∧
  ∀ (H' : Hp) (q : Addr), Kq T cB h B H H' → H q = none → H' q = some (.lst (outV (Sy73.step st c).2)) → BxAt cB H' B (Sy73.step st c).1 → Q (.ref q) H'
def spFcS (cB : Addr) : Sp := fun vs H Q _ => ∃ (B : Addr) (st : Sy73.St), vs = [.ref B] ∧ BxAt cB H B st ∧ StOk st ∧ ∀ (H' : Hp) (q : Addr), Same H H' → H q = none → H' q = some (.lst ((Sy73.facesOf st.box st.spider).map nv)) → Q (.ref q) H'
def spFcF (cB : Addr) : Sp := fun vs H Q _ => ∃ (B : Addr) (st : Sy73.St), vs = [.ref B] ∧ BxAt cB H B st ∧ StOk st ∧ ∀ (H' : Hp) (q : Addr), Same H H' → H q = none → H' q = some (.lst ((Sy73.facesOf st.box st.fly).map nv)) → Q (.ref q) H'
def spBxI (cB : Addr) : Sp := fun vs H Q _ => ∃ (p dx : Addr), vs = [.ref p] ∧ H p = some (.ins cB dx []) ∧ ∀ H' : Hp, BxAt cB H' p Sy73.init → (∀ b o, H b = some o → b ≠ p → H' b = some o) → Q .non H'
theorem place_eq {st : Sy73.St} {p : List Nat} (h : p.length = 3) (k : List Nat → Sy73.St) : Sy73.place st p k = if (facesM st.box p).isEmpty = true then (st, Sy73.ok (-1)) else (k p, Sy73.ok ((facesM st.box p).length : Nat)) := by
  unfold Sy73.place Sy73.inBox facesM
  rw [h]
  by_cases c : ((List.range 3).all fun k => decide (Sy73.nth p k ≤ Sy73.nth st.box k)) = true
  · simp only [c, if_true]
    by_cases c2 : (Sy73.facesOf st.box p).isEmpty = true
    · rw [if_pos (.inr c2), if_pos c2]
    · rw [if_neg (fun z => z.elim (fun z => by cases z) c2), if_neg c2]
  · have c' : ((List.range 3).all fun k => decide (Sy73.nth p k ≤ Sy73.nth st.box k)) = false := by simpa using c
    rw [c']
    simp
theorem len_empty (l : List Nat) : decide (V.int ((l.map nv).length : Int) = V.int 0) = l.isEmpty := by
  cases l with
  | nil => rfl
  | cons x r =>
    refine decide_eq_false fun z => ?_
    have := V.int.inj z
    simp only [List.length_map, List.length_cons] at this
    omega
section
variable {P : Program} {w : World} {K : Frg} {mg : Str → Option Value} {base : Heap} {cS cE cL cB : Addr} {TT : List (Addr × Str)}
theorem m_Box (D : InitOk K mg "Box" cB "Box.__init__" s_Box___init__ ["self"]) (T : Tx K mg cS cE cL cB) : C8.Mak P w K mg base 1 "Box" cB (spBxI cB) [] := by
  obtain ⟨f, fd, M, F, b⟩ := D.ex
  refine C8.mak0 M D.mgc F b .nil sc_Box___init__ (fun vs H Q E h => ?_) (fun cdv A outer s H vs Q E hr h => ⟨_, (pss_cons (ps_fld (pv 0) (pe_lst (pa_cons pe_int (pa_cons pe_int (pa_cons pe_int pa_nil)))) rfl)
    (pss_cons (ps_fld (pv 0) (pe_lst (pa_cons pe_int (pa_cons pe_int (pa_cons pe_int pa_nil)))) rfl)
    (pss_one (ps_fld (pv 0) (pe_lst (pa_cons pe_int (pa_cons pe_int (pa_cons pe_int pa_nil)))) rfl)))), ?_⟩)
  · obtain ⟨p, dx, rfl, _⟩ := h
    rfl
  · obtain ⟨p, dx, rfl, hp, k⟩ := h
    have e1 (x : Addr) : putF "lengths" (.ref x) [] = ([("lengths", .ref x)] : List (Str × V)) := rfl
    have e2 (x y : Addr) : putF "spider" (.ref y) [("lengths", .ref x)] = ([("lengths", .ref x), ("spider", .ref y)] : List (Str × V)) := by
      rw [put_past (by decide +kernel)]
      rfl
    have e3 (x y z : Addr) : putF "fly" (.ref z) [("lengths", .ref x), ("spider", .ref y)] = bxF x y z := by
      rw [put_past (by decide +kernel), put_past (by decide +kernel)]
      rfl
    refine ⟨fits (m := 3) (Nat.le_refl _), fun l1 h1 => ⟨_, rfl, p, cB, dx, [], rfl, ?_, T.clB, T.aB.1, (by show 0 < 1000; decide), ?_⟩⟩
    · rw [upd_ne (ne_of_none hp h1)]
      exact hp
    rw [e1]
    have n1 : l1 ≠ p := (ne_of_none hp h1).symm
    refine ⟨fits (m := 3) (Nat.le_refl _), fun l2 h2 => ⟨_, rfl, p, cB, dx, [("lengths", .ref l1)], rfl, ?_, T.clB, T.aB.2.1, ?_, ?_⟩⟩
    · rw [upd_ne (ne_of_none upd_same h2)]
      exact upd_same
    · show 1 < 1000
      decide
    rw [e2]
    have n2 : l2 ≠ p := (ne_of_none upd_same h2).symm
    have n12 : l1 ≠ l2 := ne_of_none (by rw [upd_ne n1]; exact upd_same) h2
    refine ⟨fits (m := 3) (Nat.le_refl _), fun l3 h3 => ⟨_, rfl, p, cB, dx, [("lengths", .ref l1), ("spider", .ref l2)], rfl, ?_, T.clB, T.aB.2.2, ?_, ?_⟩⟩
    · rw [upd_ne (ne_of_none upd_same h3)]
      exact upd_same
    · show 2 < 1000
      decide
    rw [e3]
    have n3 : l3 ≠ p := (ne_of_none upd_same h3).symm
    have n13 : l1 ≠ l3 := ne_of_none (by rw [upd_ne n1, upd_ne n12, upd_ne n1]; exact upd_same) h3
    have n23 : l2 ≠ l3 := ne_of_none (by rw [upd_ne n2]; exact upd_same) h3
    refine k _ ⟨dx, l1, l2, l3, upd_same, ?_, ?_, ?_⟩ fun b o e hb => ?_
    · rw [upd_ne n1, upd_ne n13, upd_ne n1, upd_ne n12, upd_ne n1]
      exact upd_same
    · rw [upd_ne n2, upd_ne n23, upd_ne n2]
      exact upd_same
    · rw [upd_ne n3]
      exact upd_same
    · have m1 := ne_of_none e h1
      have m2 : b ≠ l2 := ne_of_none (by rw [upd_ne hb, upd_ne m1]; exact e) h2
      have m3 : b ≠ l3 := ne_of_none (by rw [upd_ne hb, upd_ne m2, upd_ne hb, upd_ne m1]; exact e) h3
      rw [upd_ne hb, upd_ne m3, upd_ne hb, upd_ne m2, upd_ne hb, upd_ne m1]
      exact e
theorem c_answer_begins (D : DefOk K mg "answer_begins" s_answer_begins ["box", "lengths"]) (T : Tx K mg cS cE cL cB) : C8.Cal P w K mg base 1 "answer_begins" (AnsSp TT cB (fun c hs => ∃ x y z, c = .begins x y z ∧ hs = [x, y, z])) [] := by
  obtain ⟨f, fd, F, b⟩ := D.ex
  refine C8.cal0 F b .nil sc_answer_begins (fun vs H Q E h => ?_) (fun cdv A outer s H vs Q E hr h => ⟨_, (pss_cons (ps_if (PW.pt (pw_or (pt_cmpR op_lt (pe_callB (cr_min rfl) (by rfl) T.n_min (by decide +kernel) (pa_cons (pv 1) pa_nil)) pe_int (nomark _)) (pw_or1 (pt_cmpR op_gt (pe_callB (cr_max rfl) (by rfl) T.n_max (by decide +kernel) (pa_cons (pv 1) pa_nil)) (pe_globI rfl T.g_LONGEST) (nomark _)))))
      (pss_one (ps_ret (pe_lst (pa_cons (pe_un un_neg pe_int) pa_nil))))
      pss_nil)
    (pss_cons (ps_fld (pv 0) (pv 1) rfl)
    (pss_cons (ps_fld (pv 0) (pe_lst (pa_cons pe_int (pa_cons pe_int (pa_cons pe_int pa_nil)))) rfl)
    (pss_cons (ps_fld (pv 0) (pe_callTy call_list_of (by rfl) T.n_list (by decide +kernel) (pa_cons (pv 1) pa_nil)) rfl)
    (pss_one (ps_ret (pe_lst (pa_cons pe_int pa_nil)))))))), ?_⟩)
  · obtain ⟨B, h, st, c, hs, rfl, _⟩ := h
    rfl
  · obtain ⟨B, h, st, c, hs, rfl, ⟨dx, l, s, f, bx⟩, ok, hH, ⟨x, y, z, rfl, rfl⟩, tb, k⟩ := h
    have hI : SqL K H h (([x, y, z].map (fun (n : Nat) => (n : Int))).map V.int) := by
      rw [← nv_map]
      exact SqL.of hH
    have no : (x < 1 ∨ 40 < x ∨ y < 1 ∨ 40 < y ∨ z < 1 ∨ 40 < z) → ∀ q, H q = none → Q (.ref q) (upd H q (.lst [.int (-1)])) := fun hc q hq => by
      have es : Sy73.step st (.begins x y z) = (st, Sy73.ok (-1)) := if_pos hc
      rw [es] at k
      exact k _ q (kq_same tb (same_upd (Same.refl _) hq)) hq upd_same ⟨dx, l, s, f, bx.same (same_upd (Same.refl _) hq)⟩
    refine ⟨_, rfl, h, _, rfl, hI, by simp, fun m hm hle => ⟨_, _, rfl, rfl, _, rfl, ?_⟩⟩
    refine ite2 (fun c => ?_) (fun c => ?_)
    · have c : m < 1 := of_decide_eq_true c
      have hm : m = (x : Int) ∨ m = (y : Int) ∨ m = (z : Int) := by simpa using hm
      refine iteT ⟨_, rfl, fits (m := 1) (Nat.le_refl _), fun q hq => no (by omega) q hq⟩
    · have c : ¬ m < 1 := fun z => c (decide_eq_true z)
      have g1 := hle (x : Int) (by simp)
      have g2 := hle (y : Int) (by simp)
      have g3 := hle (z : Int) (by simp)
      refine ⟨_, rfl, h, _, rfl, hI, by simp, fun m2 hm2 hle2 => ⟨_, _, rfl, rfl, _, rfl, ?_⟩⟩
      refine ite2 (fun c2 => ?_) (fun c2 => ?_)
      · have c2 : m2 > 40 := of_decide_eq_true c2
        have hm2 : m2 = (x : Int) ∨ m2 = (y : Int) ∨ m2 = (z : Int) := by simpa using hm2
        exact ⟨_, rfl, fits (m := 1) (Nat.le_refl _), fun q hq => no (by omega) q hq⟩
      · have c2 : ¬ m2 > 40 := fun z => c2 (decide_eq_true z)
        have j1 := hle2 (x : Int) (by simp)
        have j2 := hle2 (y : Int) (by simp)
        have j3 := hle2 (z : Int) (by simp)
        have es : Sy73.step st (.begins x y z) = (⟨[x, y, z], [0, 0, 0], [x, y, z]⟩, Sy73.ok 0) := if_neg (by omega)
        rw [es] at k
        refine ⟨_, rfl, _, rfl, B, cB, dx, _, rfl, bx.at_, T.clB, T.aB.1, (by show 3 < 1000; decide), ?_⟩
        rw [bx_p1]
        have hB1 : (upd H B (.ins cB dx (bxF h s f))) h = some (.lst ([x, y, z].map nv)) := by
          rw [upd_ne (ne_of hH bx.at_ (by intro z; cases z))]
          exact hH
        refine ⟨fits (m := 3) (Nat.le_refl _), fun l2 h2 => ⟨_, rfl, B, cB, dx, bxF h s f, rfl, ?_, T.clB, T.aB.2.1, ?_, ?_⟩⟩
        · rw [upd_ne (ne_of_none upd_same h2)]
          exact upd_same
        · show 3 < 1000
          decide
        rw [bx_p2]
        have n2 : l2 ≠ B := (ne_of_none upd_same h2).symm
        have nh2 : h ≠ l2 := ne_of_none hB1 h2
        have nhB : h ≠ B := ne_of hH bx.at_ (by intro z; cases z)
        have hB2 : (upd (upd (upd H B (.ins cB dx (bxF h s f))) l2 (.lst [.int 0, .int 0, .int 0])) B (.ins cB dx (bxF h l2 f))) h = some (.lst ([x, y, z].map nv)) := by
          rw [upd_ne nhB, upd_ne nh2]
          exact hB1
        refine ⟨_, rfl, h, _, rfl, .inl (SqL.of hB2), fun l3 h3 => ⟨_, rfl, B, cB, dx, bxF h l2 f, rfl, ?_, T.clB, T.aB.2.2, ?_, ?_⟩⟩
        · rw [upd_ne (ne_of_none upd_same h3)]
          exact upd_same
        · show 3 < 1000
          decide
        rw [bx_p3]
        have n3 : l3 ≠ B := (ne_of_none upd_same h3).symm
        have n23 : l2 ≠ l3 := ne_of_none (by rw [upd_ne n2]; exact upd_same) h3
        have nh3 : h ≠ l3 := ne_of_none hB2 h3
        refine ⟨fits (m := 1) (Nat.le_refl _), fun q hq => ?_⟩
        have nqB : q ≠ B := (ne_of_none upd_same hq).symm
        have nq3 : l3 ≠ q := ne_of_none (by rw [upd_ne n3]; exact upd_same) hq
        have nq2 : l2 ≠ q := ne_of_none (by rw [upd_ne n2, upd_ne n23, upd_ne n2]; exact upd_same) hq
        have nhq : h ≠ q := ne_of_none (by rw [upd_ne nhB, upd_ne nh3]; exact hB2) hq
        have k3 : Kp TT B H _ := ((((((kp_same (B := B) tb (Same.refl H)).put (fs' := bxF h s f) bx.at_).then (same_upd (Same.refl _) h2 (o := .lst [.int 0, .int 0, .int 0]))).put (fs' := bxF h l2 f) (by rw [upd_ne n2.symm]; exact upd_same)).then (same_upd (Same.refl _) h3 (o := .lst ([x, y, z].map nv)))).put (fs' := bxF h l2 l3) (by rw [upd_ne n3.symm]; exact upd_same)).then (same_upd (Same.refl _) hq (o := .lst [.int 0]))
        have hBE : ∀ oz : HO, (upd (upd (upd (upd (upd (upd H B (.ins cB dx (bxF h s f))) l2 (.lst [.int 0, .int 0, .int 0])) B (.ins cB dx (bxF h l2 f))) l3 (.lst ([x, y, z].map nv))) B (.ins cB dx (bxF h l2 l3))) q oz) B = some (.ins cB dx (bxF h l2 l3)) := fun oz => by
          rw [upd_ne nqB.symm]
          exact upd_same
        have nl2 : H l2 = none := by
          rw [upd_ne n2] at h2
          exact h2
        have nl3 : H l3 = none := by
          rw [upd_ne n3, upd_ne n23.symm, upd_ne n3] at h3
          exact h3
        refine k _ q ⟨k3, fun dx' l' s' f' e => ?_⟩ ?_ upd_same ⟨dx, h, l2, l3, ?_, ?_, ?_, ?_⟩
        · rw [bx.at_] at e
          obtain ⟨rfl, _⟩ := bx_inj e
          refine ⟨h, l2, l3, hBE _, fun y hy => ?_⟩
          rcases hy with rfl | rfl | rfl
          · exact .inl rfl
          · exact .inr (.inl nl2)
          · exact .inr (.inl nl3)
        · rw [upd_ne nqB, upd_ne nq3.symm, upd_ne nqB, upd_ne nq2.symm, upd_ne nqB] at hq
          exact hq
        · rw [upd_ne nqB.symm]
          exact upd_same
        · rw [upd_ne nhq, upd_ne nhB, upd_ne nh3]
          exact hB2
        · rw [upd_ne nq2, upd_ne n2, upd_ne n23, upd_ne n2]
          exact upd_same
        · rw [upd_ne nq3, upd_ne n3]
          exact upd_same
theorem c_answer_spider (D : DefOk K mg "answer_spider" s_answer_spider ["box", "point"]) (T : Tx K mg cS cE cL cB) (c_faces_at : C8.Cal P w K mg base 3 "faces_at" (spFaces K) []) : C8.Cal P w K mg base 4 "answer_spider" (AnsSp TT cB (fun c hs => ∃ x y z, c = .spider x y z ∧ hs = [x, y, z])) [] := by
  obtain ⟨f, fd, F, b⟩ := D.ex
  refine C8.cal0 F b .nil sc_answer_spider (fun vs H Q E h => ?_) (fun cdv A outer s H vs Q E hr h => ⟨_, (pss_cons (ps_set (i := 2) sc_answer_spider.nd rfl (Or.inl rfl) (C8.pe_c c_faces_at hr (by omega) rfl (pa_cons (pe_fld (pv 0) rfl) (pa_cons (pv 1) pa_nil))))
    (pss_cons (ps_if (pt_cmpR op_eq (pe_callB call_len_seq (by rfl) T.n_len PySem.boot_len (pa_cons (pv 2) pa_nil)) pe_int (nomark _))
      (pss_one (ps_ret (pe_lst (pa_cons (pe_un un_neg pe_int) pa_nil))))
      pss_nil)
    (pss_cons (ps_fld (pv 0) (pv 1) rfl)
    (pss_one (ps_ret (pe_lst (pa_cons (pe_callB call_len_seq (by rfl) T.n_len PySem.boot_len (pa_cons (pv 2) pa_nil)) pa_nil))))))), ?_⟩)
  · obtain ⟨B, h, st, c, hs, rfl, _⟩ := h
    rfl
  · obtain ⟨B, h, st, c, hs, rfl, ⟨dx, l, s, f, bx⟩, ok, hH, ⟨x, y, z, rfl, rfl⟩, tb, k⟩ := h
    have es := place_eq (st := st) (p := [x, y, z]) rfl fun p => { st with spider := p }
    have es : Sy73.step st (.spider x y z) = _ := es
    refine ⟨_, rfl, B, cB, dx, _, _, rfl, bx.at_, T.clB, T.aB.1, bx_lk1 .., _, rfl, l, h, st.box, [x, y, z], rfl, SqL.of bx.l_, SqL.of hH, ok.b3, rfl, fun H1 q1 t1 nq1 hq1 => ?_⟩
    refine ⟨_, rfl, q1, _, rfl, .inl (SqL.of hq1), rfl, _, rfl, ?_⟩
    rw [len_empty]
    refine ite2 (fun c => ?_) (fun c => ?_)
    · rw [es, if_pos c] at k
      exact ⟨_, rfl, fits (m := 1) (Nat.le_refl _), fun q hq => k _ q (kq_same tb (same_upd t1 (t1.free hq))) (t1.free hq) upd_same ⟨dx, l, s, f, bx.same (same_upd t1 (t1.free hq))⟩⟩
    · rw [es, if_neg c] at k
      have bx1 := bx.same t1
      refine ⟨_, rfl, _, rfl, B, cB, dx, _, rfl, bx1.at_, T.clB, T.aB.2.1, (by show 3 < 1000; decide), ?_⟩
      rw [bx_p2]
      have nB : ∀ {a xs}, H1 a = some (.lst xs) → a ≠ B := fun e => ne_of e bx1.at_ (by intro z; cases z)
      have up : ∀ {a xs}, H1 a = some (.lst xs) → (upd H1 B (.ins cB dx (bxF l h f))) a = some (.lst xs) := fun e => by rw [upd_ne (nB e)]; exact e
      refine ⟨_, rfl, q1, _, rfl, .inl (SqL.of (up hq1)), fits (m := 1) (Nat.le_refl _), fun q hq => ?_⟩
      have nqB : q ≠ B := (ne_of_none upd_same hq).symm
      have hq2 : H1 q = none := by
        rw [upd_ne nqB] at hq
        exact hq
      have s2 := same_upd (Same.refl (upd H1 B (.ins cB dx (bxF l h f)))) hq (o := .lst [.int (((facesM st.box [x, y, z]).map nv).length : Nat)])
      have hold : Hold cB h B H _ := fun dx' l' s' f' e => by
        rw [bx.at_] at e
        obtain ⟨rfl, rfl, rfl, rfl⟩ := bx_inj e
        refine ⟨l, h, f, s2 _ _ upd_same, fun y hy => ?_⟩
        rcases hy with rfl | rfl | rfl
        · exact .inr (.inr (.inl rfl))
        · exact .inl rfl
        · exact .inr (.inr (.inr (.inr rfl)))
      refine k _ q ⟨((kp_same (B := B) tb t1).put (fs' := bxF l h f) bx1.at_).then s2, hold⟩ (t1.free hq2) ?_ ⟨dx, l, h, f, s2 _ _ upd_same, s2 _ _ (up bx1.l_), s2 _ _ (up (t1 _ _ hH)), s2 _ _ (up bx1.f_)⟩
      rw [upd_same, List.length_map]
      rfl
theorem c_answer_fly (D : DefOk K mg "answer_fly" s_answer_fly ["box", "point"]) (T : Tx K mg cS cE cL cB) (c_faces_at : C8.Cal P w K mg base 3 "faces_at" (spFaces K) []) : C8.Cal P w K mg base 4 "answer_fly" (AnsSp TT cB (fun c hs => ∃ x y z, c = .fly x y z ∧ hs = [x, y, z])) [] := by
  obtain ⟨f, fd, F, b⟩ := D.ex
  refine C8.cal0 F b .nil sc_answer_fly (fun vs H Q E h => ?_) (fun cdv A outer s H vs Q E hr h => ⟨_, (pss_cons (ps_set (i := 2) sc_answer_fly.nd rfl (Or.inl rfl) (C8.pe_c c_faces_at hr (by omega) rfl (pa_cons (pe_fld (pv 0) rfl) (pa_cons (pv 1) pa_nil))))
    (pss_cons (ps_if (pt_cmpR op_eq (pe_callB call_len_seq (by rfl) T.n_len PySem.boot_len (pa_cons (pv 2) pa_nil)) pe_int (nomark _))
      (pss_one (ps_ret (pe_lst (pa_cons (pe_un un_neg pe_int) pa_nil))))
      pss_nil)
    (pss_cons (ps_fld (pv 0) (pv 1) rfl)
    (pss_one (ps_ret (pe_lst (pa_cons (pe_callB call_len_seq (by rfl) T.n_len PySem.boot_len (pa_cons (pv 2) pa_nil)) pa_nil))))))), ?_⟩)
  · obtain ⟨B, h, st, c, hs, rfl, _⟩ := h
    rfl
  · obtain ⟨B, h, st, c, hs, rfl, ⟨dx, l, s, f, bx⟩, ok, hH, ⟨x, y, z, rfl, rfl⟩, tb, k⟩ := h
    have es := place_eq (st := st) (p := [x, y, z]) rfl fun p => { st with fly := p }
    have es : Sy73.step st (.fly x y z) = _ := es
    refine ⟨_, rfl, B, cB, dx, _, _, rfl, bx.at_, T.clB, T.aB.1, bx_lk1 .., _, rfl, l, h, st.box, [x, y, z], rfl, SqL.of bx.l_, SqL.of hH, ok.b3, rfl, fun H1 q1 t1 nq1 hq1 => ?_⟩
    refine ⟨_, rfl, q1, _, rfl, .inl (SqL.of hq1), rfl, _, rfl, ?_⟩
    rw [len_empty]
    refine ite2 (fun c => ?_) (fun c => ?_)
    · rw [es, if_pos c] at k
      exact ⟨_, rfl, fits (m := 1) (Nat.le_refl _), fun q hq => k _ q (kq_same tb (same_upd t1 (t1.free hq))) (t1.free hq) upd_same ⟨dx, l, s, f, bx.same (same_upd t1 (t1.free hq))⟩⟩
    · rw [es, if_neg c] at k
      have bx1 := bx.same t1
      refine ⟨_, rfl, _, rfl, B, cB, dx, _, rfl, bx1.at_, T.clB, T.aB.2.2, (by show 3 < 1000; decide), ?_⟩
      rw [bx_p3]
      have nB : ∀ {a xs}, H1 a = some (.lst xs) → a ≠ B := fun e => ne_of e bx1.at_ (by intro z; cases z)
      have up : ∀ {a xs}, H1 a = some (.lst xs) → (upd H1 B (.ins cB dx (bxF l s h))) a = some (.lst xs) := fun e => by rw [upd_ne (nB e)]; exact e
      refine ⟨_, rfl, q1, _, rfl, .inl (SqL.of (up hq1)), fits (m := 1) (Nat.le_refl _), fun q hq => ?_⟩
      have nqB : q ≠ B := (ne_of_none upd_same hq).symm
      have hq2 : H1 q = none := by
        rw [upd_ne nqB] at hq
        exact hq
      have s2 := same_upd (Same.refl (upd H1 B (.ins cB dx (bxF l s h)))) hq (o := .lst [.int (((facesM st.box [x, y, z]).map nv).length : Nat)])
      have hold : Hold cB h B H _ := fun dx' l' s' f' e => by
        rw [bx.at_] at e
        obtain ⟨rfl, rfl, rfl, rfl⟩ := bx_inj e
        refine ⟨l, s, h, s2 _ _ upd_same, fun y hy => ?_⟩
        rcases hy with rfl | rfl | rfl
        · exact .inr (.inr (.inl rfl))
        · exact .inr (.inr (.inr (.inl rfl)))
        · exact .inl rfl
      refine k _ q ⟨((kp_same (B := B) tb t1).put (fs' := bxF l s h) bx1.at_).then s2, hold⟩ (t1.free hq2) ?_ ⟨dx, l, s, h, s2 _ _ upd_same, s2 _ _ (up bx1.l_), s2 _ _ (up bx1.s_), s2 _ _ (up (t1 _ _ hH))⟩
      rw [upd_same, List.length_map]
      rfl
theorem c_spider_faces (D : DefOk K mg "spider_faces" s_spider_faces ["box"]) (T : Tx K mg cS cE cL cB) (c_faces_at : C8.Cal P w K mg base 3 "faces_at" (spFaces K) []) : C8.Cal P w K mg base 4 "spider_faces" (spFcS cB) [] := by
  obtain ⟨f, fd, F, b⟩ := D.ex
  refine C8.cal0 F b .nil sc_spider_faces (fun vs H Q E h => ?_) (fun cdv A outer s H vs Q E hr h => ⟨_, (pss_one (ps_ret (C8.pe_c c_faces_at hr (by omega) rfl (pa_cons (pe_fld (pv 0) rfl) (pa_cons (pe_fld (pv 0) rfl) pa_nil))))), ?_⟩)
  · obtain ⟨B, st, rfl, _⟩ := h
    rfl
  · obtain ⟨B, st, rfl, ⟨dx, l, s, f, bx⟩, ok, k⟩ := h
    rw [← facesM_in ok.sp.le] at k
    exact ⟨_, rfl, B, cB, dx, _, _, rfl, bx.at_, T.clB, T.aB.1, bx_lk1 .., _, rfl, B, cB, dx, _, _, rfl, bx.at_, T.clB, T.aB.2.1, bx_lk2 .., l, s, st.box, st.spider, rfl, SqL.of bx.l_, SqL.of bx.s_, ok.b3, ok.s3, k⟩
theorem c_fly_faces (D : DefOk K mg "fly_faces" s_fly_faces ["box"]) (T : Tx K mg cS cE cL cB) (c_faces_at : C8.Cal P w K mg base 3 "faces_at" (spFaces K) []) : C8.Cal P w K mg base 4 "fly_faces" (spFcF cB) [] := by
  obtain ⟨f, fd, F, b⟩ := D.ex
  refine C8.cal0 F b .nil sc_fly_faces (fun vs H Q E h => ?_) (fun cdv A outer s H vs Q E hr h => ⟨_, (pss_one (ps_ret (C8.pe_c c_faces_at hr (by omega) rfl (pa_cons (pe_fld (pv 0) rfl) (pa_cons (pe_fld (pv 0) rfl) pa_nil))))), ?_⟩)
  · obtain ⟨B, st, rfl, _⟩ := h
    rfl
  · obtain ⟨B, st, rfl, ⟨dx, l, s, f, bx⟩, ok, k⟩ := h
    rw [← facesM_in ok.fp.le] at k
    exact ⟨_, rfl, B, cB, dx, _, _, rfl, bx.at_, T.clB, T.aB.1, bx_lk1 .., _, rfl, B, cB, dx, _, _, rfl, bx.at_, T.clB, T.aB.2.2, bx_lk3 .., l, f, st.box, st.fly, rfl, SqL.of bx.l_, SqL.of bx.f_, ok.b3, ok.f3, k⟩
end
end SF

/-! ## R1 -/
set_option Elab.async false
set_option maxRecDepth 100000
namespace SF
open PySem PySem.Spec PyProof.Rows L2
/-- a call of what a subscript gives: one of the defs that Hd tells with its promise -/
def tCallX (te : TE) (Hd : Addr → Sp → Prop) (t : TA) : TE := fun σ H Q => te σ H fun v H0 => ∃ f sp, v = .ref f ∧ Hd f sp ∧ t σ H0 fun vs H1 => sp vs H1 Q E0
theorem eval_callSub (a b : Expr) (sp pos : Pos) (args : List Expr) (env : Env) : eval (.Call (.Subscript a b sp) args [] pos) env = (do
    callWith pos (← eval (.Subscript a b sp) env) [] (backTo pos (starEach args env)) (backToKw pos (keywordEach [] env))) := rfl
theorem pe_callX {X : Cx} {Hd : Addr → Sp → Prop} {k j : Nat} {a b e : Expr} {es : List Expr} {spos pos : Pos} {te : TE} {t : TA} (A : ∀ f sp, Hd f sp → C8.CalAt X.prog X.w X.K X.mg X.base k f sp) (hr : Room j X.A) (hk : k ≤ j)
    (hf : PE X (.Subscript a b spos) te) (ha : PA X (e :: es) t)
    (he : starEach (e :: es) X.env = (false, eval e X.env) :: starEach es X.env := by rfl) (hpl : (backTo pos (starEach es X.env)).any (·.1) = false := by rfl) : PE X (.Call (.Subscript a b spos) (e :: es) [] pos) (tCallX te Hd t) := by
  refine ⟨fun pins s σ H Q I h => ?_⟩
  rw [eval_callSub]
  refine wpAny_bind (thn (hf.run pins s σ H _ I h) fun u s1 ⟨v, H1, I1, r1, q1⟩ => ?_)
  obtain ⟨f, sp, rfl, hS, ht⟩ := q1
  obtain rfl : u = Value.ref f := r1
  obtain ⟨fd, ps, F, kp, hb⟩ := (A f sp hS).ex
  refine PySem.W.callWith_K (h₀ := X.base) I1.ok.mod.kin kp (thn (ha.run pos pins s1 σ _ _ I1 ht) fun us s2 ⟨vs, H2, I2, r, q⟩ => ⟨I2.kIn, ?_⟩) he hpl
  exact run_fn F (hr.mono hk) hb .nil pass0 I2 r (by rw [List.append_nil]; exact q)
end SF

/-! ## R2 -/
set_option Elab.async false
set_option maxRecDepth 100000
set_option maxHeartbeats 2000000
namespace SF
open PySem PySem.Spec PyProof.Rows L2 LamX PySem.SeqAt PySem.W
/-! ### the keys' order -/
def keyD (x : Int × List Nat) : PyData := .tuple [.int x.1, .int (x.2.length : Nat), .list (x.2.map fun (n : Nat) => .int (n : Int))]
theorem alike_ints : ∀ (l r : List Nat), alikeAll (l.map fun (n : Nat) => PyData.int (n : Int)) (r.map fun (n : Nat) => PyData.int (n : Int)) = true
  | [], r => by cases r <;> simp [alikeAll]
  | a :: l, [] => by simp [alikeAll]
  | a :: l, b :: r => by
    have ih := alike_ints l r
    simp only [List.map_cons, alikeAll, alike, ih, Bool.and_self]
theorem lex_ints : ∀ (l r : List Nat), lexLt itemOrd (keyToksAll (l.map fun (n : Nat) => PyData.int (n : Int))) (keyToksAll (r.map fun (n : Nat) => PyData.int (n : Int))) = lexB l r
  | [], [] => by decide +kernel
  | [], b :: r => by
    rw [List.map_cons, List.map_nil, toks_all_cons]
    show (itemLt (.inl 0) (.inl 1) || (!itemLt (.inl 1) (.inl 0) && lexLt itemOrd [] _)) = true
    rfl
  | a :: l, [] => by
    rw [List.map_cons, List.map_nil, toks_all_cons]
    rfl
  | a :: l, b :: r => by
    have ih := lex_ints l r
    rw [List.map_cons, List.map_cons]
    have ha : alike (PyData.int (a : Int)) (PyData.int (b : Int)) = true := by simp [alike]
    by_cases c : a = b
    · subst c
      rw [dataLt_all_yes ha (by simp [PyData.eqv]), ih]
      simp [lexB]
    · rw [dataLt_all_no ha (by simp [PyData.eqv]; omega), dataLt_int]
      simp only [lexB]
      rw [Bool.eq_iff_iff]
      simp
      omega
theorem key_lt (x y : Int × List Nat) : dataLt (keyD x) (keyD y) = keyLt x y := by
  have h1 : alike (PyData.int x.1) (PyData.int y.1) = true := by simp [alike]
  have h2 : alike (PyData.int (x.2.length : Nat)) (PyData.int (y.2.length : Nat)) = true := by simp [alike]
  have h3 : alike (PyData.list (x.2.map fun (n : Nat) => PyData.int (n : Int))) (PyData.list (y.2.map fun (n : Nat) => PyData.int (n : Int))) = true := by
    simp only [alike]
    exact alike_ints _ _
  unfold keyD
  rw [dataLt_tuple]
  unfold keyLt
  by_cases c : x.1 = y.1
  · rw [dataLt_all_yes h1 (by simp [PyData.eqv, c])]
    by_cases c2 : x.2.length = y.2.length
    · rw [dataLt_all_yes h2 (by simp [PyData.eqv, c2])]
      by_cases c3 : PyData.eqv (PyData.list (x.2.map fun (n : Nat) => PyData.int (n : Int))) (PyData.list (y.2.map fun (n : Nat) => PyData.int (n : Int))) = true
      · rw [dataLt_all_yes h3 c3]
        have e1 := (toks_eqv _ _ h3).1 c3
        have e2 := lex_ints x.2 y.2
        have e3 : keyToksAll (x.2.map fun (n : Nat) => PyData.int (n : Int)) = keyToksAll (y.2.map fun (n : Nat) => PyData.int (n : Int)) := by simpa [keyToks] using e1
        rw [e3] at e2
        have e4 : lexLt itemOrd (keyToksAll (y.2.map fun (n : Nat) => PyData.int (n : Int))) (keyToksAll (y.2.map fun (n : Nat) => PyData.int (n : Int))) = false := by
          rw [lex_ints, lexB_irrefl]
        rw [← e2, e4]
        have e5 : lexLt itemOrd (keyToksAll ([] : List PyData)) (keyToksAll ([] : List PyData)) = false := by decide +kernel
        rw [e5, c, c2]
        simp
      · rw [dataLt_all_no h3 (by simpa using c3), dataLt_list, lex_ints]
        simp [c, c2]
    · rw [dataLt_all_no h2 (by simp [PyData.eqv]; omega), dataLt_int]
      rw [Bool.eq_iff_iff]
      simp [c, c2]
  · rw [dataLt_all_no h1 (by simp [PyData.eqv, c]), dataLt_int]
    simp [c]
theorem key_alike (x y : Int × List Nat) : alike (keyD x) (keyD y) = true := by
  unfold keyD
  simp only [alike, alikeAll, Bool.and_true, Bool.true_and]
  exact alike_ints _ _
end SF

/-! ## R3 -/
set_option Elab.async false
set_option maxRecDepth 100000
set_option maxHeartbeats 4000000
namespace SF
open PySem PySem.Spec PyProof.Rows L2 LamX PySem.SeqAt PySem.W
theorem depth_ints : ∀ l : List Nat, PyData.depthAll (l.map fun (n : Nat) => PyData.int (n : Int)) ≤ 5
  | [] => by simp [PyData.depthAll]
  | a :: l => by
    have ih := depth_ints l
    rw [List.map_cons, PyData.depthAll]
    simp only [PyData.depth]
    omega
theorem key_depth (x : Int × List Nat) : (keyD x).depth ≤ 20 := by
  have := depth_ints x.2
  unfold keyD
  simp only [PyData.depth, PyData.depthAll]
  omega
/-- a way's key, as the lambda tells it -/
def WayAt (H : Hp) (a : Addr) (x : Int × List Nat) : Prop := ∃ ra, H a = some (.tup [.int x.1, .ref ra]) ∧ RowAt H ra x.2
theorem WayAt.same {H H' : Hp} {a : Addr} {x : Int × List Nat} (h : WayAt H a x) (s : Same H H') : WayAt H' a x := by
  obtain ⟨ra, h1, h2⟩ := h
  exact ⟨ra, s _ _ h1, h2.same s⟩
def WaysAt (H : Hp) (as : List Addr) (xs : List (Int × List Nat)) : Prop := Paired (WayAt H) as xs
theorem WaysAt.same {H H' : Hp} {as : List Addr} {xs : List (Int × List Nat)} (h : WaysAt H as xs) (s : Same H H') : WaysAt H' as xs := Paired.mono (fun _ _ q => WayAt.same q s) h
def KeyAt (H : Hp) (t : Addr) (x : Int × List Nat) : Prop := ∃ ra, H t = some (.tup [.int x.1, nv x.2.length, .ref ra]) ∧ H ra = some (.lst (x.2.map nv))
theorem KeyAt.same {H H' : Hp} {a : Addr} {x : Int × List Nat} (h : KeyAt H a x) (s : Same H H') : KeyAt H' a x := by
  obtain ⟨ra, h1, h2⟩ := h
  exact ⟨ra, s _ _ h1, s _ _ h2⟩
section
variable {X : Cx} {pins : List (Addr × Obj)} {σ : L2.St} {H H' : Hp} {s : Shared}
theorem reads_ints {h : Heap} : ∀ (l : List Nat) (vs : List Value), Vals (l.map nv) vs → ∃ as, ReadsAll h vs (l.map fun (n : Nat) => PyData.int (n : Int)) as
  | [], vs, r => by
    cases r
    exact ⟨_, .nil⟩
  | a :: l, vs, r => by
    cases r with
    | cons r1 r2 =>
      obtain ⟨t, rfl⟩ := r1
      obtain ⟨as, h⟩ := reads_ints l _ r2
      exact ⟨_, .cons (.int _ _) h⟩
theorem key_reads {t : Addr} {x : Int × List Nat} (I : Inv X pins σ H s) (h : KeyAt H t x) : ∃ as, PySem.Reads s.heap (.ref t) (keyD x) as := by
  obtain ⟨ra, h1, h2⟩ := h
  obtain ⟨its, rv, ⟨o, e1, e2, n, e3⟩, _⟩ := I.tuple (SqT.of h1)
  obtain ⟨its2, rv2, ⟨o2, n2, d1, d2, _, d3⟩, _⟩ := I.list (SqL.of h2)
  obtain ⟨bs, hb⟩ := reads_ints (h := s.heap) x.2 its2 rv2
  cases rv with
  | cons r1 rv =>
    cases rv with
    | cons r2 rv =>
      cases rv with
      | cons r3 rv =>
        cases rv
        obtain ⟨t1, rfl⟩ := r1
        obtain ⟨t2, rfl⟩ := r2
        cases r3
        have hb' : ReadsAll s.heap its2.toArray.toList (x.2.map fun (n : Nat) => PyData.int (n : Int)) bs := hb
        exact ⟨_, .tuple e1 e2 e3 (.cons (.int _ _) (.cons (.int _ _) (.cons (.list d1 d2 d3 hb') .nil)))⟩
theorem key_less {A : Around} {t u : Addr} {x y : Int × List Nat} (I : Inv X pins σ H s) (h1 : KeyAt H t x) (h2 : KeyAt H u y) (hu : A.units + 20 < cLine) : RcLt A s (.ref t) (.ref u) (keyLt x y) := by
  obtain ⟨as, r1⟩ := key_reads I h1
  obtain ⟨bs, r2⟩ := key_reads I h2
  have := rcLt_alike (keyD x) (keyD y) A s (.ref t) (.ref u) as bs r1 r2 (key_alike x y) (by unfold keyD; intro z; cases z) (by have := key_depth x; omega)
  rw [key_lt] at this
  exact this
theorem fp_mono {b : Addr} (h : FpOk X pins H b) (n : H' b = none) : FpOk X pins H' b := ⟨n, h.2⟩
theorem vals_ref {l : List V} {its : List Value} {i : Nat} {a : Addr} (r : Vals l its) (h : l[i]? = some (.ref a)) : its[i]? = some (.ref a) := by
  induction r generalizing i with
  | nil => simp at h
  | cons r1 _ ih =>
    cases i with
    | zero =>
      cases h
      cases r1
      rfl
    | succ i => exact ih h
theorem hmin_loop {l I S f : Addr} {as : List Addr} {xs : List (Int × List Nat)} {best : Int × List Nat} {H0 : Hp} {R : Result → Shared → Prop} (hc : X.calm = true) (hr : Room 3 X.A) (hSI : S ≠ I) (hl : H0 l = some (.lst (refs as))) (ws : WaysAt H0 as xs)
    (turn : ∀ (a : Addr) (x : Int × List Nat) (pl : List (Addr × Obj)) (s : Shared) (H : Hp), Same H0 H → Inv X (pins ++ pl) σ H s → WayAt H a x →
      wpAny (model X.prog X.w) X.A.in1 (call (.ref f) [.ref a]) (EP X (pins ++ pl) σ (fun v H' => ∃ t, v = .ref t ∧ Same H H' ∧ KeyAt H' t x)) (fun _ _ => False) s)
    (fin : ∀ (s' : Shared) (H' : Hp) (a : Addr), Inv X pins σ H' s' → Same H0 H' → WayAt H' a best → R (.ok (.ret (.ref a))) s') :
    ∀ (r j : Nat) (s : Shared) (H : Hp) (ab tb : Addr) (c : Nat) (m : Int × List Nat), xs.length - (j + 1) = r → j + 1 ≤ xs.length → Inv X pins σ H s → Same H0 H → s.heap.IsListIter I l (j + 1) → s.heap.get? S = some (seqObj "list" #[.ref ab, .ref tb] c) →
      FpOk X pins H I → FpOk X pins H S → WayAt H ab m → KeyAt H tb m → bestM m (xs.drop (j + 1)) = best →
      codeAny (model X.prog X.w) X.A (.builtin "min.loop" ⟨[.ref I, .ref f, .ref S], []⟩) R s := by
  have hname : (toString "min" ++ toString ".loop" : String) = "min.loop" := by decide
  intro r
  induction r with
  | zero =>
    intro j s H ab tb c m hr0 hj Iv sm hit hS fI fS hm hk hb
    have hin : j + 1 = xs.length := by omega
    obtain ⟨its, rv, pl, _⟩ := Iv.list (SqL.of (sm _ _ hl))
    have hlI : l ≠ I := fun z => by
      have := sm _ _ hl
      rw [z, fI.1] at this
      cases this
    have hsz : its.toArray.size = xs.length := by
      rw [List.size_toArray, ← rv.length, refs_len, ws.length]
    refine codeAny_builtin PySem.F.entry_min_loop ?_
    rw [Around.under_plainId PySem.F.plain_min_loop _]
    show wpAny _ X.A.in1 (seqItems? (.ref S) >>= _) _ _ _
    refine wpAny_bind (wpAny_seqItems hS rfl ?_)
    show wpAny _ X.A.in1 (tryCatch (pyNext (.ref I)) _ >>= _) _ _ _
    refine wpAny_bind (wpAny_tryCatch ((Walks.list (prog := X.prog) (w := X.w) (A := X.A.in1) (Iv.ok.hd hc) I l hlI its.toArray).done _ _ _ ⟨by rw [hsz, ← hin]; exact hit, pl.isList⟩ fun h' tk' hk' => ?_))
    have I1 : Inv X pins σ H { s with heap := h', toks := tk' } := Iv.turned (it := I) (fun b o nb e => hk' b o (by simpa using nb) e) fI.1 fI.2.1 fI.2.2.2.1 fI.2.2.2.2.1 fI.2.2.2.2.2
    have hS' := hk' S _ (by simpa using hSI) hS
    show wpAny _ X.A.in1 (updateSeq S (fun _ => #[]) >>= _) _ _ _
    refine wpAny_bind ?_
    refine wpAny_updateSeq hS' rfl (wpAny_bind (wpAny_letGo (wpAny_pure ?_)))
    have s1 := Heap.SameBut.update h' S (Obj.mapSeq fun _ => (#[] : Array Value))
    refine fin _ H ab (I1.turned (it := S) (fun b o nb e => (s1.2 b nb).trans e) fS.1 fS.2.1 fS.2.2.2.1 fS.2.2.2.2.1 fS.2.2.2.2.2) sm ?_
    rw [hin, List.drop_length] at hb
    rw [← hb]
    exact hm
  | succ r ih =>
    intro j s H ab tb c m hr0 hj Iv sm hit hS fI fS hm hk hb
    have hlt : j + 1 < xs.length := by omega
    obtain ⟨its, rv, pl, _⟩ := Iv.list (SqL.of (sm _ _ hl))
    have hlI : l ≠ I := fun z => by
      have := sm _ _ hl
      rw [z, fI.1] at this
      cases this
    have hlen : as.length = xs.length := ws.length
    have hsz : its.toArray.size = xs.length := by
      rw [List.size_toArray, ← rv.length, refs_len, hlen]
    obtain ⟨a, ha⟩ : ∃ a, as[j + 1]? = some a := ⟨_, List.getElem?_eq_getElem (by omega)⟩
    obtain ⟨x, hx, hax0⟩ := paired_at ws ha
    have hax := hax0.same sm
    have hva : its[j + 1]? = some (.ref a) := by
      have h1 : (refs as)[j + 1]? = some (.ref a) := by
        unfold refs
        rw [List.getElem?_map, ha]
        rfl
      exact vals_ref rv h1
    refine codeAny_builtin PySem.F.entry_min_loop ?_
    rw [Around.under_plainId PySem.F.plain_min_loop _]
    show wpAny _ X.A.in1 (seqItems? (.ref S) >>= _) _ _ _
    refine wpAny_bind (wpAny_seqItems hS rfl ?_)
    show wpAny _ X.A.in1 (tryCatch (pyNext (.ref I)) _ >>= _) _ _ _
    refine wpAny_bind (wpAny_tryCatch ((Walks.list (prog := X.prog) (w := X.w) (A := X.A.in1) (Iv.ok.hd hc) I l hlI its.toArray).item (j + 1) _ _ _ (by rw [hsz]; exact hlt) ⟨hit, pl.isList⟩ fun v h' tk' hP hst' hk' => ?_))
    have hv : v = .ref a := by
      have : its[j + 1]? = some v := by simpa using hP
      rw [hva] at this
      exact (Option.some.inj this).symm
    subst hv
    obtain ⟨oI', hoI', hoc, hod⟩ := id hst'.1
    have I1 : Inv X pins σ H { s with heap := h', toks := tk' } := Iv.turned (it := I) (fun b o nb e => hk' b o (by simpa using nb) e) fI.1 fI.2.1 fI.2.2.2.1 fI.2.2.2.2.1 fI.2.2.2.2.2
    have hS' := hk' S _ (by simpa using hSI) hS
    have ob : ∀ b ∈ [I, S], ∃ o, h'.get? b = some o ∧ ∀ v, o.data ≠ .cell v := by
      intro b hb
      rcases List.mem_cons.mp hb with rfl | hb
      · exact ⟨oI', hoI', fun v z => by rw [hod] at z; cases z⟩
      · rw [List.mem_singleton.mp hb]
        exact ⟨_, hS', fun v z => by cases z⟩
    have fp : ∀ b ∈ [I, S], FpOk X pins H b := by
      intro b hb
      rcases List.mem_cons.mp hb with rfl | hb
      · exact fI
      · rw [List.mem_singleton.mp hb]
        exact fS
    have I1p := I1.pinned fp ob
    have mI : (I, oI') ∈ pinsAt [I, S] h' := mem_pinsAt (by simp) hoI'
    have mS : (S, seqObj "list" #[.ref ab, .ref tb] c) ∈ pinsAt [I, S] h' := mem_pinsAt (by simp) hS'
    show wpAny _ X.A.in1 (tryCatch (holding [.ref a] (call (.ref f) [.ref a])) _ >>= _) _ _ _
    refine wpAny_bind (wpAny_tryCatch (wpAny_holding (wpAny_mono (turn a x _ _ H sm I1p hax) (fun u s2 he => ?_) fun _ _ hF => hF.elim)))
    obtain ⟨v, H2, I2p, rv2, t, rfl, s2', key⟩ := he
    cases rv2
    have pI := I2p.pin (I, oI') (List.mem_append_right _ (List.mem_append_right _ mI))
    have pS := I2p.pin (S, seqObj "list" #[.ref ab, .ref tb] c) (List.mem_append_right _ (List.mem_append_right _ mS))
    have I2 := I2p.unpinned
    have fI2 := fp_mono fI pI.2.1
    have fS2 := fp_mono fS pS.2.1
    have sm2 := sm.trans s2'
    have hit2 : s2.heap.IsListIter I l (j + 1 + 1) := ⟨oI', pI.1, hoc, hod⟩
    show wpAny _ X.A.in1 (tryCatch (holding [.ref a, .ref t] (richCompare .Lt (.ref t) (.ref tb) >>= _)) _ >>= _) _ _ _
    have cmp := key_less (A := X.A.in1) I2 key (hk.same s2') (by have := hr.un; show X.A.units + 1 + 20 < cLine; omega)
    refine wpAny_bind (wpAny_tryCatch (wpAny_holding (wpAny_bind (cmp _ _ _ _ ?_))))
    refine wpAny_bind (wpAny_holding (wpAny_truthy_bool ?_))
    refine wpAny_bind (wpAny_letGo (wpAny_pure ?_))
    have hd : xs.drop (j + 1) = x :: xs.drop (j + 1 + 1) := by
      rw [List.drop_eq_getElem_cons hlt]
      congr 1
      exact Option.some.inj ((List.getElem?_eq_getElem hlt).symm.trans hx)
    rw [hd] at hb
    have hb : bestM (if keyLt x m = true then x else m) (xs.drop (j + 1 + 1)) = best := hb
    by_cases hlt2 : keyLt x m = true
    · rw [if_pos hlt2] at hb
      have s1 := Heap.SameBut.update s2.heap S (Obj.mapSeq fun _ => #[.ref a, .ref t])
      obtain ⟨c2, hc2⟩ : ∃ c2, (s2.heap.update S (Obj.mapSeq fun _ => #[.ref a, .ref t])).get? S = some (seqObj "list" #[.ref a, .ref t] c2) := ⟨_, get?_update_seq pS.1 fun _ => #[.ref a, .ref t]⟩
      simp only [hlt2, if_true]
      refine wpAny_bind ?_
      refine wpAny_updateSeq pS.1 rfl (wpAny_bind (wpAny_letGo ?_))
      rw [hname]
      refine wpAny_pure ⟨plainId_quiet PySem.F.plain_min_loop _, ih (j + 1) _ H2 a t c2 x (by omega) hlt (I2.turned (it := S) (fun b o nb e => (s1.2 b nb).trans e) fS2.1 fS2.2.1 fS2.2.2.2.1 fS2.2.2.2.2.1 fS2.2.2.2.2.2) sm2 ⟨oI', (s1.2 I hSI.symm).trans pI.1, hoc, hod⟩ hc2 fI2 fS2 (hax.same s2') key hb⟩
    · rw [if_neg hlt2] at hb
      have hlt3 : keyLt x m = false := by simpa using hlt2
      simp only [hlt3, Bool.false_eq_true, if_false]
      refine wpAny_bind (wpAny_letGo ?_)
      rw [hname]
      exact wpAny_pure ⟨plainId_quiet PySem.F.plain_min_loop _, ih (j + 1) _ H2 ab tb c m (by omega) hlt I2 sm2 hit2 pS.1 fI2 fS2 (hm.same s2') (hk.same s2') hb⟩
end
end SF

/-! ## R4 -/
set_option Elab.async false
set_option maxRecDepth 100000
set_option maxHeartbeats 4000000
namespace SF
open PySem PySem.Spec PyProof.Rows L2 LamX PySem.SeqAt PySem.W
section
variable {X : Cx} {pins : List (Addr × Obj)} {σ : L2.St} {H H' : Hp} {s : Shared}
theorem hmin {l f : Addr} {as : List Addr} {x0 : Int × List Nat} {rest : List (Int × List Nat)} {Q : Value → Shared → Prop} {E : Value → Shared → Prop} (hc : X.calm = true) (hr : Room 3 X.A) (Iv : Inv X pins σ H s) (hl : H l = some (.lst (refs as))) (ws : WaysAt H as (x0 :: rest))
    (turn : ∀ (a : Addr) (x : Int × List Nat) (pl : List (Addr × Obj)) (s : Shared) (H' : Hp), Same H H' → Inv X (pins ++ pl) σ H' s → WayAt H' a x →
      wpAny (model X.prog X.w) X.A.in1 (call (.ref f) [.ref a]) (EP X (pins ++ pl) σ (fun v H2 => ∃ t, v = .ref t ∧ Same H' H2 ∧ KeyAt H2 t x)) (fun _ _ => False) s)
    (fin : ∀ (s' : Shared) (H' : Hp) (a : Addr), Inv X pins σ H' s' → Same H H' → WayAt H' a (bestM x0 rest) → Q (.ref a) s') :
    wpAny (model X.prog X.w) X.A (call (.builtin "min") [.ref l] [(Str.ofString "key", .ref f)]) Q E s := by
  have hname : (toString "min" ++ toString ".loop" : String) = "min.loop" := by decide
  obtain ⟨its, rv, pl, _⟩ := Iv.list (SqL.of hl)
  have hlen : as.length = (x0 :: rest).length := ws.length
  have hsz : its.toArray.size = (x0 :: rest).length := by
    rw [List.size_toArray, ← rv.length, refs_len, hlen]
  obtain ⟨a, ha⟩ : ∃ a, as[0]? = some a := ⟨_, List.getElem?_eq_getElem (by rw [hlen]; exact Nat.succ_pos _)⟩
  obtain ⟨x, hx, hax⟩ := paired_at ws ha
  obtain rfl : x0 = x := Option.some.inj hx
  have hva : its[0]? = some (.ref a) := by
    have h1 : (refs as)[0]? = some (.ref a) := by
      unfold refs
      rw [List.getElem?_map, ha]
      rfl
    exact vals_ref rv h1
  refine kmk_tree PySem.F.kind_min PySem.F.plain_min PySem.F.entry_min (kmk_min_key _ _) ?_
  show wpAny _ X.A.in1 (Builtin.Builtins.bindParams "min" ["key", "default"] 0 ⟨[], [(Str.ofString "key", .ref f)]⟩ >>= _) _ _ s
  refine wpAny_bind (wpAny_of_eq (show Builtin.Builtins.bindParams "min" ["key", "default"] 0 ⟨[], [(Str.ofString "key", .ref f)]⟩ = pure [some (.ref f), none] from rfl) ?_)
  refine wpAny_bind (wpAny_pure ?_)
  refine wpAny_bind (wpAny_pyIter_list pl.isList ?_)
  refine wpAny_bind (wpAny_newList ?_ (Nat.zero_le _))
  rw [hname]
  have hSz : (s.heap.push { cls := .type "list_iterator", data := .fields #[.ref l, .int 0 0] }).objs.size = s.heap.objs.size + 1 := size_push' ..
  have hSI : (s.heap.push { cls := .type "list_iterator", data := .fields #[.ref l, .int 0 0] }).objs.size ≠ s.heap.objs.size := by rw [hSz]; exact Nat.ne_of_gt (Nat.lt_succ_self _)
  have hlI : l ≠ s.heap.objs.size := Nat.ne_of_lt pl.lt
  refine wpAny_pure ⟨plainId_quiet PySem.F.plain_min_loop _, ?_⟩
  have kp : ∀ b o, s.heap.get? b = some o → ((s.heap.push { cls := .type "list_iterator", data := .fields #[.ref l, .int 0 0] }).push (seqObj "list" #[] 0)).get? b = some o := fun b o e => Heap.get?_push_of_some _ (Heap.get?_push_of_some _ e)
  have I0 : Inv X pins σ H { s with heap := (s.heap.push { cls := .type "list_iterator", data := .fields #[.ref l, .int 0 0] }).push (seqObj "list" #[] 0) } := Iv.kept (t' := s.toks) kp
  have gI : ((s.heap.push { cls := .type "list_iterator", data := .fields #[.ref l, .int 0 0] }).push (seqObj "list" #[] 0)).get? s.heap.objs.size = some { cls := .type "list_iterator", data := .fields #[.ref l, .int 0 0] } :=
    Heap.get?_push_of_some _ (Heap.get?_push_size _ rfl)
  have gS : ((s.heap.push { cls := .type "list_iterator", data := .fields #[.ref l, .int 0 0] }).push (seqObj "list" #[] 0)).get? (s.heap.push { cls := .type "list_iterator", data := .fields #[.ref l, .int 0 0] }).objs.size = some (seqObj "list" #[] 0) := Heap.get?_push_size _ rfl
  have fI : FpOk X pins H s.heap.objs.size := Iv.fpOk (Nat.le_refl _) (Iv.hok.fresh (Nat.le_refl _))
  have fS : FpOk X pins H (s.heap.push { cls := .type "list_iterator", data := .fields #[.ref l, .int 0 0] }).objs.size := Iv.fpOk (by rw [hSz]; exact Nat.le_succ _) (Iv.hok.fresh (by rw [hSz]; exact Nat.le_succ _))
  generalize (s.heap.push { cls := .type "list_iterator", data := .fields #[.ref l, .int 0 0] }).objs.size = S at *
  generalize hIe : s.heap.objs.size = I at *
  refine codeAny_builtin PySem.F.entry_min_loop ?_
  rw [Around.under_plainId PySem.F.plain_min_loop _]
  show wpAny _ X.A.in1 (seqItems? (.ref _) >>= _) _ _ _
  refine wpAny_bind (wpAny_seqItems gS rfl ?_)
  show wpAny _ X.A.in1 (tryCatch (pyNext (.ref I)) _ >>= _) _ _ _
  refine wpAny_bind (wpAny_tryCatch ((Walks.list (prog := X.prog) (w := X.w) (A := X.A.in1) (Iv.ok.hd hc) I l hlI its.toArray).item 0 _ _ _ (by rw [hsz]; exact Nat.succ_pos _) ⟨⟨_, gI, rfl, rfl⟩, (pl.keeps kp).isList⟩ fun v h' tk' hP hst' hk' => ?_))
  have hv : v = .ref a := by
    have : its[0]? = some v := by simpa using hP
    rw [hva] at this
    exact (Option.some.inj this).symm
  subst hv
  obtain ⟨oI', hoI', hoc, hod⟩ := id hst'.1
  have I1 := I0.turned (h' := h') (t' := tk') (it := I) (fun b o nb e => hk' b o (by simpa using nb) e) fI.1 fI.2.1 fI.2.2.2.1 fI.2.2.2.2.1 fI.2.2.2.2.2
  have hS' := hk' S _ (by simpa using hSI) gS
  have ob : ∀ b ∈ [I, S], ∃ o, h'.get? b = some o ∧ ∀ v, o.data ≠ .cell v := by
    intro b hb
    rcases List.mem_cons.mp hb with rfl | hb
    · exact ⟨oI', hoI', fun v z => by rw [hod] at z; cases z⟩
    · rw [List.mem_singleton.mp hb]
      exact ⟨_, hS', fun v z => by cases z⟩
  have fp : ∀ b ∈ [I, S], FpOk X pins H b := by
    intro b hb
    rcases List.mem_cons.mp hb with rfl | hb
    · exact fI
    · rw [List.mem_singleton.mp hb]
      exact fS
  have I1p := I1.pinned fp ob
  have mI : (I, oI') ∈ pinsAt [I, S] h' := mem_pinsAt (by simp) hoI'
  have mS : (S, seqObj "list" #[] 0) ∈ pinsAt [I, S] h' := mem_pinsAt (by simp) hS'
  show wpAny _ X.A.in1 (tryCatch (holding [.ref a] (call (.ref f) [.ref a])) _ >>= _) _ _ _
  refine wpAny_bind (wpAny_tryCatch (wpAny_holding (wpAny_mono (turn a x0 _ _ H (Same.refl _) I1p hax) (fun u s2 he => ?_) fun _ _ hF => hF.elim)))
  obtain ⟨v, H2, I2p, rv2, t, rfl, s2', key⟩ := he
  cases rv2
  have pI := I2p.pin (I, oI') (List.mem_append_right _ (List.mem_append_right _ mI))
  have pS := I2p.pin (S, seqObj "list" #[] 0) (List.mem_append_right _ (List.mem_append_right _ mS))
  have I2 := I2p.unpinned
  have fI2 := fp_mono fI pI.2.1
  have fS2 := fp_mono fS pS.2.1
  have s1 := Heap.SameBut.update s2.heap S (Obj.mapSeq fun _ => #[.ref a, .ref t])
  obtain ⟨c2, hc2⟩ : ∃ c2, (s2.heap.update S (Obj.mapSeq fun _ => #[.ref a, .ref t])).get? S = some (seqObj "list" #[.ref a, .ref t] c2) := ⟨_, get?_update_seq pS.1 fun _ => #[.ref a, .ref t]⟩
  show wpAny _ X.A.in1 (updateSeq S (fun _ => #[.ref a, .ref t]) >>= _) _ _ _
  refine wpAny_bind ?_
  refine wpAny_updateSeq pS.1 rfl ?_
  rw [hname]
  refine wpAny_pure ⟨plainId_quiet PySem.F.plain_min_loop _, hmin_loop (xs := x0 :: rest) (best := bestM x0 rest) (H0 := H) hc hr hSI hl ws turn (fun s' H' a I' sm' w' => fin s' H' a I' sm' w') _ 0 _ H2 a t c2 x0 rfl (Nat.succ_pos _) (I2.turned (it := S) (fun b o nb e => (s1.2 b nb).trans e) fS2.1 fS2.2.1 fS2.2.2.2.1 fS2.2.2.2.2.1 fS2.2.2.2.2.2) s2' ⟨oI', (s1.2 I hSI.symm).trans pI.1, hoc, hod⟩ hc2 fI2 fS2 (hax.same s2') key rfl⟩
end
end SF

/-! ## R5 -/
set_option Elab.async false
set_option maxRecDepth 100000
set_option maxHeartbeats 4000000
namespace SF
open PySem PySem.Spec PyProof.Rows L2 LamX PySem.SeqAt PySem.W
theorem run_lam {P : Program} {w : World} {K : Frg} {mg : Str → Option Value} {base : Heap} {k : Nat} {f c' : Addr} {q : Str} {params : Arguments} {body : Expr} {scope : Scope} {pm ctv : Value} {N ps : List Str} {A : Around} {outer : List Env} {s : Shared} {H : Hp} {us : List Value} {vs : List V} {Q : VK}
    (of1 : s.heap.get? f = some (kla_obj "<lambda>" q params body scope [] pm c' ctv)) (hco : H c' = some (CodeO c' q)) (S : FnScope N ps scope) (hr : Room (k + 1) A) (e0 : Env0 P w K mg base A outer s H)
    (hbind : bindArgs (kla_fn "<lambda>" q params body scope [] pm (.ref c') ctv) ⟨us, []⟩ = pure (ps.zip us)) (r : Vals vs us) (hl : vs.length = ps.length)
    (hbody : ∃ t, PE (cxOf C8.CX0 P w K mg base N q scope f (.ref c') A outer s H C8.E0) body t ∧ t (L2.start N vs) H Q) :
    codeAny (model P w) A (.call (.ref f) ⟨us, []⟩) (CR C8.CX0 outer P w H s Q C8.E0) s := by
  obtain ⟨⟨oc, vs', t0, hoc, hdc, hvc⟩, _, _⟩ := e0.hok c' _ hco
  have lim : s.heap.NoLimit := e0.mod.nolimit.keeps fun b o e => (e0.bs b o e).1
  have hkind : ∀ y ∈ ps.zip us, scope.names.lookup y.1 = some .local ∨ (scope.names.lookup y.1 = some .cell ∧ ((cellsFrom (s.heap.objs.size + 1) scope.names []).lookup y.1).isSome = true) := fun ⟨n, v⟩ hy => by
    rcases S.par n (List.of_mem_zip hy).1 with q | q
    · exact .inl q
    · exact .inr ⟨q, PySem.W.cellsFrom_some _ _ _ (.inl q)⟩
  refine PySem.W.kla_callFunE hr.depth of1 rfl S.co S.gen rfl ⟨c', oc, vs', t0, rfl, hoc, hdc, hvc⟩ ?_
  rw [hbind]
  refine wpAny_pure (wpAny_newFunctionEnv_cells S.kind hkind fun env he s1 x => ?_)
  subst he
  refine ⟨lim.keeps x.toInCall.keep, ?_⟩
  obtain ⟨t, ht, hq⟩ := hbody
  have I : Inv (cxOf C8.CX0 P w K mg base N q scope f (.ref c') A outer s H C8.E0) [] (L2.start N vs) H s1 := inv_start S hr.hd e0 hl r x
  refine PySem.W.kla_codeExpr (wpAny_mono (ht.run [] s1 _ H Q I hq) (fun v s' hq => ?_) fun e s' hq => hq)
  obtain ⟨w', H', J', rv, q⟩ := hq
  exact ⟨w', H', J'.os, J'.bare, J'.base, J'.hok, rv, q⟩
theorem WayAt.extN {H H' : Hp} {a : Addr} {x : Int × List Nat} (h : WayAt H a x) (s : ExtN H H') : WayAt H' a x := by
  obtain ⟨ra, h1, h2, h3⟩ := h
  exact ⟨ra, s _ _ h1 (fun _ z => by cases z), h2, s _ _ h3 (fun _ z => by cases z)⟩
def tMinKey (T : List (Addr × Str)) (ta : TE) : TE := fun σ H Q => ta σ H fun v H1 => ∃ (l : Addr) (as : List Addr) (x0 : Int × List Nat) (rest : List (Int × List Nat)), v = .ref l ∧ H1 l = some (.lst (refs as)) ∧ WaysAt H1 as (x0 :: rest) ∧ Tabs T H1 ∧
  ∀ (H2 : Hp) (a : Addr), ExtN H1 H2 → Tabs T H2 → WayAt H2 a (bestM x0 rest) → Q (.ref a) H2
theorem pe_minkey {X : Cx} {T : List (Addr × Str)} {c P : Addr} {scope : Scope} {params : Arguments} {body e : Expr} {lpos kpos p pos : Pos} {N : List Str} {v0 : Str} {ta tb : TE}
    (hg : Gl X "min") (hm : X.mg "min" = none) (ha : PA X [e] (tCons ta tNil)) (TB : TabB X.base X.mg c P) (hcode : X.env.code = .ref c) (hmT : (P, X.env.qual ++ "<lambda>") ∈ T) (hu : ∀ p ∈ T, p.1 = P → p.2 = X.env.qual ++ "<lambda>")
    (hr : Room 5 X.A) (hc : X.calm = true) (hdef : defaultsOf params X.env = ([], [])) (hfree : ∀ y ∈ scope.names, y.2 ≠ .free) (S : FnScope N [v0] scope)
    (hbind : ∀ (q : Str) (pm cv ctv u : Value), bindArgs (kla_fn "<lambda>" q params body scope [] pm cv ctv) ⟨[u], []⟩ = pure [(v0, u)])
    (hbody : ∀ (A : Around) (outer : List Env) (s : Shared) (H : Hp) (f c' : Addr), PE (cxOf C8.CX0 X.prog X.w X.K X.mg X.base N (X.env.qual ++ "<lambda>") scope f (.ref c') A outer s H C8.E0) body tb)
    (hkey : ∀ (a : Addr) (x : Int × List Nat) (H : Hp) (Q : VK), WayAt H a x → (∀ (H' : Hp) (t : Addr), Same H H' → KeyAt H' t x → Q (.ref t) H') → tb (L2.start N [.ref a]) H Q)
    (hcl : cloFrom X.env.cells scope.names [] = [] := by rfl)
    (he : backTo pos (starEach [e] X.env) = (false, eval e X.env) :: backTo pos (starEach [] X.env) := by rfl) (hpl : (backTo pos (starEach [e] X.env)).any (·.1) = false := by rfl)
    (hall : (backToKw pos (keywordEach [⟨some "key", .Lambda params body scope lpos, kpos⟩] X.env)).all (·.1.isSome) = true := by rfl) (hnone : (backToKw pos (keywordEach [⟨some "key", .Lambda params body scope lpos, kpos⟩] X.env)).any (·.1.isNone) = false := by rfl) :
    PE X (.Call (.Name "min" p) [e] [⟨some "key", .Lambda params body scope lpos, kpos⟩] pos) (tMinKey T ta) := by
  refine ⟨fun pins s σ H Q I h => ?_⟩
  refine wpAny_Call_Name_kw (ld_blt I hg hm PyProof.Rows.boot_min ?_)
  refine PyProof.Rows.callWith_kw (thn (ha.run pos pins s σ H (fun vs H1 => match vs with
    | [v] => ∃ (l : Addr) (as : List Addr) (x0 : Int × List Nat) (rest : List (Int × List Nat)), v = .ref l ∧ H1 l = some (.lst (refs as)) ∧ WaysAt H1 as (x0 :: rest) ∧ Tabs T H1 ∧
      ∀ (H2 : Hp) (a : Addr), ExtN H1 H2 → Tabs T H2 → WayAt H2 a (bestM x0 rest) → Q (.ref a) H2
    | _ => False) I h) fun us s1 ⟨vs, H1, I1, r1, q1⟩ => ?_) he hpl hall hnone
  obtain ⟨v, rfl⟩ : ∃ v, vs = [v] := by
    match vs, q1 with
    | [v], _ => exact ⟨v, rfl⟩
  · obtain ⟨l, as, x0, rest, rfl, hl, ws, tb0, q⟩ := q1
    cases r1 with
    | cons ra rn =>
      cases rn
      cases ra
      show wpAny _ _ (evalAll ((do let v ← eval (.Lambda params body scope lpos) X.env; standAt pos; pure v) :: [])) _ _ s1
      refine wpAny_evalAll_cons (wpAny_bind (lam_make2 I1 TB hcode hmT hu tb0 hdef (fun y hy z => absurd z (hfree y hy)) fun f c' pm ctv H2 s2 I2 eN T2 hf hfn hfr hco => wpAny_bind (wpAny_standAt (wpAny_pure (wpAny_evalAll_nil ?_)))))
      rw [hcl] at hf
      have hl2 := eN _ _ hl (fun _ z => by cases z)
      have ws2 : WaysAt H2 as (x0 :: rest) := Paired.mono (fun _ _ h => WayAt.extN h eN) ws
      have nL : f ≠ X.env.locals := by
        obtain ⟨m, ⟨ob, es, ep, ho, hd, _⟩, _⟩ := I2.loc
        intro z
        rw [← z, hf] at ho
        cases ho
        cases hd
      have nF : f ∉ X.fs := by
        intro z
        apply hfr
        rcases I2.ok.stk with e | ⟨e, _⟩
        · rw [e]
          exact z
        · rw [e]
          obtain ⟨en, h1, h2⟩ := List.mem_filterMap.mp z
          exact List.mem_filterMap.mpr ⟨en, .tail _ h1, h2⟩
      have Ip : Inv X (pins ++ [(f, kla_obj "<lambda>" (X.env.qual ++ "<lambda>") params body scope [] pm c' ctv)]) σ H2 s2 := I2.pins_of fun p hp => by
        rcases List.mem_append.mp hp with hp | hp
        · exact I2.pin p (List.mem_append_right _ hp)
        · rw [List.mem_singleton.mp hp]
          exact ⟨hf, hfn, nL, nF, fun v z => by cases z⟩
      show wpAny _ _ (call (.builtin "min") [.ref l] [(Str.ofString "key", .ref f)]) _ _ _
      refine hmin hc (hr.mono (by decide)) Ip hl2 ws2 (fun a x pl s3 H3 sm3 I3 way => ?_) (fun s3 H3 a I3 sm3 way => ⟨.ref a, H3, I3.unpinned, rfl, q H3 a (eN.trans (ExtN.of sm3)) (T2.ext sm3) way⟩)
      have of3 := (I3.pin (f, kla_obj "<lambda>" (X.env.qual ++ "<lambda>") params body scope [] pm c' ctv) (List.mem_append_right _ (List.mem_append_left _ (List.mem_append_right _ (.head _))))).1
      have rc : codeAny (model X.prog X.w) X.A.in1 (.call (.ref f) ⟨[.ref a], []⟩) (CR C8.CX0 X.stack X.prog X.w H3 s3 (fun v H' => ∃ t, v = .ref t ∧ Same H3 H' ∧ KeyAt H' t x) C8.E0) s3 :=
        run_lam (k := 2) of3 (sm3 _ _ hco) S (hr.in1.mono (by decide)) I3.env0.in1 (hbind _ _ _ _ _) (vs := [.ref a]) (.cons rfl .nil) rfl ⟨tb, hbody _ _ _ _ _ _, hkey a x H3 _ way fun H' t sm' key => ⟨t, rfl, sm', key⟩⟩
      refine wpAny_call (codeAny_mono rc fun r s4 hq => ?_)
      cases r with
      | error e => exact (show False from hq).elim
      | ok fl =>
        cases fl with
        | ret u => exact I3.after hq
        | next => exact False.elim hq
        | brk => exact False.elim hq
        | cont => exact False.elim hq
end SF

/-! ## R6 -/
set_option Elab.async false
set_option maxRecDepth 100000
set_option maxHeartbeats 4000000
namespace SF
open PySem PySem.Spec PyProof.Rows L2 LamX
open PySem.W (WData Codec OpenSpec Well WellAll ReadsW ReadsAllW)
theorem spec_callT {P : Program} {w : World} {K : Frg} {mg mb : Str → Option Value} {CX : CXT} {k : Nat} {fa : Addr} {fd : FuncData} {ps : List Str} {sp : Sp} {s₁ : Shared} {vals : List Value} {ds : List WData} {R : PySem.W.WRecords} {cl : Str → Option Addr} {d0 : WData} {tc tP : Addr}
    (KX : K.In s₁.heap) (hns : s₁.heap.Ns mainGlobals mg) (hb : s₁.heap.Ns builtinsNs mb) (hbb : ∀ x : Str, x ≠ "__name__" → mb x = bootBuiltins x) (hlim : s₁.heap.NoLimit) (hg : s₁.gens = #[])
    (hT : s₁.heap.get? tP = some { cls := .none, data := .fields #[] }) (nT : K.lookup tP = none) (C : PySem.W.CodeHd s₁.heap tc tP)
    (hbm : ∃ (bm : Addr) (ob : Obj), mg "__builtins__" = some (.ref bm) ∧ bm ≠ builtinsNs ∧ s₁.heap.get? bm = some ob ∧ ob.cls = .type "module" ∧ ob.dict = some builtinsNs ∧ ob.data = .plain)
    (hwl : WellAll w.params s₁.heap vals ds) (hpl : plWs ds = true) (hwt : ∀ d ∈ ds, d.weight ≤ 1048576) (hr : Room k callerA)
    (F : ∀ base : Heap, K.In base → base.Ns mainGlobals mg → TabB base mg tc tP → FnOk P w K mg base CX k fa fd ps sp) (hbind : ∀ (s : Shared) (us : List Value), us.length = ps.length → BindsTo s fd ⟨us, []⟩ (ps.zip us)) (hlen : ds.length = ps.length)
    (hsp : ∀ (H0 H : Hp) (xs : List V), Same H0 H → H tP = some (.tbl #[]) → DwAll K H0 xs ds → sp xs H (fun v H' => Dw K H' v d0) fun _ _ _ => False)
    (hCX : ∀ H e s', CX [] H s₁ (fun _ _ _ => False) e s' → False) :
    codeAny (model P w) callerA (.call (.ref fa) ⟨vals, []⟩) (fun r s' => ∃ u as, r = .ok (.ret u) ∧ ReadsW R cl s'.heap u d0 as ∧ OldK s₁.heap s'.heap ∧ s'.os = s₁.os ∧ AllBare s'.gens) s₁ := by
  obtain ⟨A, ho, ar⟩ := area_all ds vals hwl hpl hwt
  have hO : OnlyF (argH K s₁.heap A) := argH_only ar
  have hok0 : HOk P w (argH K s₁.heap A) s₁.heap := argH_ok ar
  have hS := dw_all KX ar ds vals hwl hpl ho
  have hV := vals_toV ho
  have hK : ∀ b u, argH K s₁.heap A b = some u → K.lookup b = none := fun b u q => (argH_is ar q).1
  have hSeq : ∀ b u, argH K s₁.heap A b = some u → ∃ o vs n, s₁.heap.get? b = some o ∧ o.data = .seq vs n := fun b u q => by
    obtain ⟨_, vs, _, _, ⟨e2, _⟩ | ⟨e2, _⟩⟩ := argH_is ar q
    · exact ⟨_, _, _, e2, rfl⟩
    · exact ⟨_, _, _, e2, rfl⟩
  generalize argH K s₁.heap A = H0 at hO hok0 hS hK hSeq
  have nP : H0 tP = none := by
    cases q : H0 tP with
    | none => rfl
    | some u =>
      obtain ⟨o, vs, n, e, d⟩ := hSeq _ _ q
      rw [hT] at e
      cases e
      cases d
  -- the heap with the table
  have hH : ∃ H : Hp, H = fun b => if b = tP then some (.tbl #[]) else H0 b := ⟨_, rfl⟩
  obtain ⟨H, eH⟩ := hH
  have HP : H tP = some (.tbl #[]) := by rw [eH]; exact if_pos rfl
  have Hn : ∀ {b}, b ≠ tP → H b = H0 b := fun {b} h => by rw [eH]; exact if_neg h
  have sm : Same H0 H := fun b o e => by rw [Hn (fun z => by rw [z, nP] at e; cases e)]; exact e
  have hok : HOk P w H s₁.heap := fun b u e => by
    by_cases hb : b = tP
    · rw [hb, HP] at e
      cases e
      rw [hb]
      exact hT
    · rw [Hn hb] at e
      exact (hok0 b u e).stay (fun d v hd q => q) (fun d q => sm _ _ q) fun d xs q => sm _ _ q
  have noD : ∀ {b : Addr} {o : Obj}, s₁.heap.get? b = some o → (∀ vs n, o.data ≠ .seq vs n) → o.data ≠ .fields #[] → H b = none := fun {b o} e h1 h2 => by
    by_cases hb : b = tP
    · rw [hb, hT] at e
      cases e
      exact absurd rfl h2
    · rw [Hn hb]
      cases q : H0 b with
      | none => rfl
      | some u =>
        obtain ⟨o', vs, n, e', d⟩ := hSeq _ _ q
        rw [e'] at e
        cases e
        exact absurd d (h1 _ _)
  have noA : ∀ {b : Addr} {o : Obj} {es : Array DictEntry} {ep : Nat}, s₁.heap.get? b = some o → o.data = .dict es ep → H b = none := fun {b o es ep} e d => by
    refine noD e (fun vs n z => ?_) fun z => ?_
    · rw [d] at z
      cases z
    · rw [d] at z
      cases z
  have base_of : ∀ {b : Addr} {o : Obj}, s₁.heap.get? b = some o → H b = none → (hidT s₁.heap H).get? b = some o := fun e n => hidT_get e n
  have nsK : ∀ {b : Addr} {m : Str → Option Value}, s₁.heap.Ns b m → (hidT s₁.heap H).Ns b m := fun {b m} ⟨o, es, ep, e, d, r⟩ => ⟨o, es, ep, base_of e (noA e d), d, r⟩
  have nK : ∀ b o, K.lookup b = some o → H b = none := fun b o e => by
    by_cases hb : b = tP
    · rw [hb, nT] at e
      cases e
    · rw [Hn hb]
      cases q : H0 b with
      | none => rfl
      | some u =>
        rw [hK b u q] at e
        cases e
  have hKb : K.In (hidT s₁.heap H) := fun b o e => base_of (KX b o e) (nK b o e)
  have hM : L2.Mod K mg (hidT s₁.heap H) := ⟨hKb, nsK hns, ⟨mb, nsK hb, hbb⟩, let ⟨mc, h1, h2⟩ := hlim; ⟨mc, nsK h1, h2⟩⟩
  have TB : TabB (hidT s₁.heap H) mg tc tP := by
    refine ⟨?_, ?_, fun z => ?_⟩
    · obtain ⟨o, us, file, tf, flags, tg, inF, text, tt, e1, r1, r2, r3, r4, r5, r6, r7, r8, hne⟩ := C
      refine ⟨o, us, file, tf, flags, tg, inF, text, tt, base_of e1 (noD e1 (fun vs n z => ?_) fun z => ?_), r1, r2, r3, r4, r5, r6, r7, r8, hne⟩
      · rw [r2] at z
        cases z
      · rw [r2] at z
        cases z
        simp at r3
    · obtain ⟨bm, ob, b1, b2, b3, b4, b5, b6⟩ := hbm
      have nG : bm ≠ mainGlobals := fun q => by
        obtain ⟨o, es, ep, e, hd, _⟩ := hns
        rw [q, e] at b3
        cases b3
        rw [hd] at b6
        cases b6
      have nP : bm ≠ tP := fun q => by
        rw [q, hT] at b3
        cases b3
        cases b6
      refine ⟨bm, ob, b1, b2, nG, nP, base_of b3 (noD b3 (fun vs n z => ?_) fun z => ?_), b4, b5, b6⟩
      · rw [b6] at z
        cases z
      · rw [b6] at z
        cases z
    · obtain ⟨o, es, ep, e, hd, _⟩ := hns
      rw [z, hT] at e
      cases e
      cases hd
  have e0 : Env0 P w K mg (hidT s₁.heap H) callerA [] s₁ H := ⟨rfl, hM, fun b o e => of_hidT e, Nat.le_of_eq (hidT_size _ _), trivial, fun b hb => absurd (show b ∈ ([] : List Addr) from hb) (by simp), hok, .of_eq hg⟩
  have hl : vals.length = ps.length := by rw [wellAll_len hwl]; exact hlen
  refine codeAny_mono ((F _ hKb (nsK hns) TB).run callerA [] s₁ H ⟨vals, []⟩ vals (vals.map toV) _ _ hr e0 (hbind s₁ vals hl) hV (hsp H0 H _ sm HP hS)) fun r s' x => ?_
  cases r with
  | error e => exact (hCX H e s' x).elim
  | ok fl =>
    cases fl with
    | next => exact False.elim x
    | brk => exact False.elim x
    | cont => exact False.elim x
    | ret u =>
      obtain ⟨v, H', os, bare, un, hok', r', q⟩ := x
      have kept : ∀ b o, b ≠ tP → s₁.heap.get? b = some o → s'.heap.get? b = some o := fun b o nb e => by
        cases q2 : H b with
        | none => exact un.keep b o e q2 (by intro z; exact absurd (show b ∈ ([] : List Addr) from z) (by simp)) (by simp)
        | some u2 =>
          have q3 := q2
          rw [Hn nb] at q3
          rcases hO b with z | ⟨ob, u3, z⟩
          · rw [q3] at z
            cases z
          · have zH : H b = some (.frz ob u3) := by rw [Hn nb]; exact z
            have z2 := un.frzs b ob _ zH
            obtain ⟨e1, _⟩ := hok b _ zH
            obtain ⟨e2, _⟩ := hok' b _ z2
            rw [e] at e1
            cases e1
            exact e2
      obtain ⟨more, hm⟩ : ∃ more : Array Value, s'.heap.get? tP = some { cls := .none, data := .fields more } := by
        obtain ⟨more, z⟩ := un.tbls tP #[] HP
        exact ⟨_, hok' tP _ z⟩
      have KX' : K.In s'.heap := fun b o e => kept b o (fun z => by rw [z, nT] at e; cases e) (KX b o e)
      obtain ⟨as, hrd⟩ := Dw.reads (R := R) (cl := cl) hok' KX' d0 v u q r'
      refine ⟨u, as, rfl, hrd, ⟨fun b o e => ?_, fun b o e => ?_⟩, os, bare⟩
      · by_cases hb : b = tP
        · rw [hb] at e ⊢
          rw [hT] at e
          cases e
          exact .inr (.inl ⟨(C.tab hT).isCodeTable, rfl, #[], more, rfl, by rw [Array.empty_append]; exact hm⟩)
        · exact .inl (kept b o hb e)
      · by_cases hb : b = tP
        · rw [hb]
          exact ⟨_, hm⟩
        · exact ⟨o, kept b o hb e⟩
/-- the end of a Spec row where one def makes a lambda -/
theorem walk_specT {r : OpenSpec} {k : Nat} {q : Program} {loose : List Str} {XP : (Str → Option Value) → Heap → Prop} {YP : World → Heap → Prop} {d : DefRec} {K : Params → Frg} {CX : CXT} {ps : List Str} {sp : Frg → Addr → Sp} {nm : Str}
    (hwell : r.wellSaid = true) (hdf : d.params.defaults = []) (hlen : r.args.length = ps.length) (hr : Room k callerA) (hrec : ((recsOf q).any fun e => e.name == nm) = true)
    (hY : ∀ (w : World) (h : Heap), YP w h → (K w.params).In h)
    (F : ∀ (w : World) (mg : Str → Option Value) (fa : Addr) (h : Heap), YP w h → (K w.params).In h → h.Ns mainGlobals mg → mg d.name = some (.ref fa) →
      ∃ (fd : FuncData) (f tc tP : Addr) (oW : Obj) (fdW : FuncData) (e : Value) (dd : Option Addr) (vs : Array Value) (sl : Array (Option Value)), mg nm = some (.ref f) ∧ (K w.params).lookup f = some oW ∧ oW.data = .func fdW ∧ fdW.code = .ref tc ∧ (K w.params).lookup tc = some ⟨e, dd, .fields vs, sl⟩ ∧ vs[11]? = some (.ref tP) ∧ (K w.params).lookup tP = none ∧
        (∀ (s : Shared) (us : List Value), us.length = ps.length → BindsTo s fd ⟨us, []⟩ (ps.zip us)) ∧
        ∀ base : Heap, (K w.params).In base → base.Ns mainGlobals mg → TabB base mg tc tP → FnOk r.prog w (K w.params) mg base CX k fa fd ps (sp (K w.params) tP))
    (hsp : ∀ (K : Frg) (tP : Addr) (H0 H : Hp) (xs : List V) (a : Codec.denoteAll r.args), Same H0 H → H tP = some (.tbl #[]) → Codec.withinAll r.args a = true → Codec.app r.args r.asked a = true → DwAll K H0 xs (Codec.encAll r.args a) →
      sp K tP xs H (fun v H' => Dw K H' v (r.ret.enc (Codec.app r.args r.f a))) fun _ _ _ => False)
    (hCX : ∀ (H : Hp) (s : Shared) (e : Value) (s' : Shared), CX [] H s (fun _ _ _ => False) e s' → False) :
    PySem.W.WalkOS q loose XP YP r d [] (fun f vs => PySem.call f vs) := by
  intro w s₀ s₁ mg mb G Y fa o pm cd doc dV kV ho hd hcd hD hmg hg args vals as hpre hlay hrd hwl hlo
  obtain ⟨a, e1, e2⟩ := PySem.W.os_pre_some hpre
  obtain ⟨e3, hwi⟩ := Codec.encAll_of_decAll r.args args a e1
  subst e3
  have KX := hY w _ Y
  obtain ⟨fd, f, tc, tP, oW, fdW, e, dd, vs, sl, k1, k2, k3, k4, k5, k6, k7, hb, hF⟩ := F w mg fa _ Y KX G.T.g hmg
  obtain ⟨hC, hT⟩ : PySem.W.CodeHd s₁.heap tc tP ∧ s₁.heap.get? tP = some { cls := .none, data := .fields #[] } := by
    obtain ⟨dL, hm, hn1⟩ := List.any_eq_true.mp hrec
    have hn2 : dL.name = nm := beq_iff_eq.mp hn1
    obtain ⟨a', o', fd', c', P', h1, h2, h3, h4, h5, h6⟩ := G.T.tab dL hm
    rw [hn2, k1] at h1
    cases h1
    have g1 := KX _ _ k2
    rw [g1] at h2
    cases h2
    rw [k3] at h3
    cases h3
    rw [k4] at h4
    cases h4
    have h6' := h6
    obtain ⟨⟨oc, vc, e1, _, e3, e4⟩, hP⟩ := h6'
    have g2 := KX _ _ k5
    rw [g2] at e1
    cases e1
    cases e3
    rw [k6] at e4
    cases e4
    exact ⟨PySem.W.CodeHd.of h5 h6, hP⟩
  refine PySem.W.enter_call (codeAny_mono (spec_callT (R := []) (cl := classAt s₀.heap) (d0 := r.ret.enc (Codec.app r.args r.f a)) KX G.T.g G.T.b G.T.builtins G.T.nolimit hg hT k7 hC G.T.bmain hwl (pl_encAll _ _) (layable_weight hlay) hr hF hb (by rw [encAll_len]; exact hlen)
    (fun H0 H xs hS hP hD => hsp (K w.params) tP H0 H xs a hS hP hwi e2 hD) fun H e s' => hCX H s₁ e s') fun r' s' hq => ?_)
  obtain ⟨u, as', rfl, h1, h2, h3, h4⟩ := hq
  exact ⟨.inl ⟨u, _, as', rfl, fun _ => rfl, h1, (OpenSpec.post_iff hwell hwi _ _).mpr rfl, fun z => Bool.noConfusion (show false = true from z)⟩, h2, h3, h4⟩
end SF

/-! ## WD -/
set_option Elab.async false
set_option maxRecDepth 100000
set_option maxHeartbeats 2000000
namespace SF
open PySem PySem.Spec PyProof.Rows L2 LamX
abbrev s_straight_ways : Stmt := top 42
abbrev N_straight_ways : List Str := ["box", "last_faces", "ways", "laid"]
theorem sc_straight_ways : FnScope N_straight_ways ["box"] (C8.fnScope s_straight_ways) := C8.fnScope_by (by decide +kernel)
abbrev s_joins : Stmt := top 44
abbrev N_joins : List Str := ["box", "row"]
theorem sc_joins : FnScope N_joins ["box", "row"] (C8.fnScope s_joins) := C8.fnScope_by (by decide +kernel)
abbrev s_answer_over : Stmt := top 45
abbrev N_answer_over : List Str := ["box", "faces", "laid"]
theorem sc_answer_over : FnScope N_answer_over ["box", "faces"] (C8.fnScope s_answer_over) := C8.fnScope_by (by decide +kernel)
abbrev s_answer_many : Stmt := top 46
abbrev N_answer_many : List Str := ["box", "nothing", "squares", "square", "row"]
theorem sc_answer_many : FnScope N_answer_many ["box", "nothing"] (C8.fnScope s_answer_many) := C8.fnScope_by (by decide +kernel)
/-! ### ways, told one by one -/
def way1 (box p q ls r : List Nat) : Option (Int × List Nat) := if lastIn ls r = true then (alongM box p q r).map fun d => (d, r) else none
theorem waysM_all (box p q : List Nat) : waysM box p q = (allFrom (Sy73.facesOf box p)).filterMap (way1 box p q (Sy73.facesOf box q)) := by
  unfold waysM
  rw [join_all, List.filterMap_filter]
  rfl
theorem way1_no {box p q ls r : List Nat} (h : ¬ lastIn ls r = true) : way1 box p q ls r = none := if_neg h
theorem way1_yes {box p q ls r : List Nat} (h : lastIn ls r = true) (hr : r ≠ []) : way1 box p q ls r = if strB box p q r = true then some (sqB box p q r, r) else none := by
  unfold way1
  rw [if_pos h, along_str hr]
  split <;> rfl
def spWays (cB : Addr) : Sp := fun vs H Q _ => ∃ (B : Addr) (st : Sy73.St), vs = [.ref B] ∧ BxAt cB H B st ∧ StOk st ∧ ∀ (H' : Hp) (q : Addr) (as : List Addr), Same H H' → H q = none → H' q = some (.lst (refs as)) → WaysAt H' as (waysM st.box st.spider st.fly) → Q (.ref q) H'
def spJoins (cB : Addr) : Sp := fun vs H Q _ => ∃ (B h : Addr) (st : Sy73.St) (f : Nat) (t : List Nat), vs = [.ref B, .ref h] ∧ BxAt cB H B st ∧ StOk st ∧ H h = some (.lst ((f :: t).map nv)) ∧ ∀ H' : Hp, Same H H' → Q (.bl ((Sy73.facesOf st.box st.spider).contains f && lastIn (Sy73.facesOf st.box st.fly) (f :: t))) H'
/-! ### what a row of faces is -/
def chkM (fs : List Nat) : Bool := (List.range (fs.length - 1)).all (fun k => canM (fs.take (k + 1)) (fs.getD (k + 1) 0))
theorem chk_snoc {l : List Nat} {g : Nat} (h : l ≠ []) : chkM (l ++ [g]) = (chkM l && canM l g) := by
  have hp := List.length_pos_iff.mpr h
  unfold chkM
  have e : (l ++ [g]).length - 1 = (l.length - 1) + 1 := by
    rw [List.length_append]
    show l.length + 1 - 1 = _
    omega
  rw [e, List.range_succ, List.all_append]
  congr 1
  · rw [Bool.eq_iff_iff, List.all_eq_true, List.all_eq_true]
    have k : ∀ x, x ∈ List.range (l.length - 1) → canM ((l ++ [g]).take (x + 1)) ((l ++ [g]).getD (x + 1) 0) = canM (l.take (x + 1)) (l.getD (x + 1) 0) := by
      intro x hx
      have := List.mem_range.mp hx
      rw [List.take_append_of_le_length (by omega), List.getD_eq_getElem?_getD, List.getD_eq_getElem?_getD, List.getElem?_append_left (by omega)]
    exact ⟨fun z x hx => by rw [← k x hx]; exact z x hx, fun z x hx => by rw [k x hx]; exact z x hx⟩
  · simp only [List.all_cons, List.all_nil, Bool.and_true]
    have e2 : l.length - 1 + 1 = l.length := by omega
    rw [e2, List.take_left, List.getD_eq_getElem?_getD, List.getElem?_append_right (Nat.le_refl _), Nat.sub_self]
    rfl
theorem distinct_snoc : ∀ (l : List Nat) (g : Nat), Sy73.distinct (l ++ [g]) = (Sy73.distinct l && !l.contains g)
  | [], g => by simp [Sy73.distinct]
  | a :: l, g => by
    have ih := distinct_snoc l g
    show (!(l ++ [g]).contains a && Sy73.distinct (l ++ [g])) = ((!l.contains a && Sy73.distinct l) && !(a :: l).contains g)
    rw [ih, Bool.eq_iff_iff]
    simp only [Bool.and_eq_true, Bool.not_eq_true', List.contains_eq_mem, decide_eq_false_iff_not, List.mem_append, List.mem_cons, not_or, List.not_mem_nil, not_false_eq_true, and_true]
    constructor
    · rintro ⟨⟨h1, h2⟩, h3, h4⟩
      exact ⟨⟨h1, h3⟩, fun z => h2 z.symm, h4⟩
    · rintro ⟨⟨h1, h3⟩, h2, h4⟩
      exact ⟨⟨h1, fun z => h2 z.symm⟩, h3, h4⟩
theorem linked_snocS : ∀ (l : List Nat) (a g : Nat), Sy73.linked (a :: (l ++ [g])) = (Sy73.linked (a :: l) && Sy73.beside (l.getLastD a) g)
  | [], a, g => by simp [Sy73.linked]
  | b :: l, a, g => by
    have ih := linked_snocS l b g
    show (Sy73.beside a b && Sy73.linked (b :: (l ++ [g]))) = ((Sy73.beside a b && Sy73.linked (b :: l)) && Sy73.beside ((b :: l).getLastD a) g)
    rw [ih, List.getLastD_cons, Bool.and_assoc]
theorem beside_symm (f g : Nat) : Sy73.beside f g = Sy73.beside g f := by
  unfold Sy73.beside
  rw [Bool.eq_iff_iff, bne_iff_ne, bne_iff_ne]
  exact ⟨Ne.symm, Ne.symm⟩
theorem chk_is : ∀ (n : Nat) (l : List Nat), l.length ≤ n → chkM l = (Sy73.distinct l && Sy73.linked l)
  | 0, l, h => by
    have : l = [] := List.length_eq_zero_iff.mp (by omega)
    subst this
    rfl
  | n + 1, l, h => by
    rcases List.eq_nil_or_concat l with rfl | ⟨l', g, rfl⟩
    · rfl
    · rw [List.length_concat] at h
      rw [List.concat_eq_append]
      cases l' with
      | nil => rfl
      | cons a t =>
        have ih := chk_is n (a :: t) (by omega)
        rw [chk_snoc (List.cons_ne_nil a t), ih, distinct_snoc]
        have e : Sy73.linked (a :: t ++ [g]) = (Sy73.linked (a :: t) && Sy73.beside (t.getLastD a) g) := linked_snocS t a g
        rw [e]
        have ec : canM (a :: t) g = (!(a :: t).contains g && Sy73.beside (t.getLastD a) g) := by
          unfold canM
          rw [List.getLast?_cons, beside_symm, List.getLastD_eq_getLast?]
          rfl
        rw [ec]
        cases Sy73.distinct (a :: t) <;> cases Sy73.linked (a :: t) <;> cases (a :: t).contains g <;> cases Sy73.beside (t.getLastD a) g <;> rfl
theorem isRow_no (l : List Nat) : (l.isEmpty = true ∨ l.any (fun (f : Nat) => decide (5 < f)) = true ∨ Sy73.distinct l = false ∨ Sy73.linked l = false) ↔ isRowM l = false := by
  have e : isRowM l = (!l.isEmpty && (l.all (fun f => decide (f < 6)) && (Sy73.distinct l && Sy73.linked l))) := by
    rw [← chk_is l.length l (Nat.le_refl _)]
    rfl
  have ea : l.any (fun (f : Nat) => decide (5 < f)) = !l.all (fun f => decide (f < 6)) := by
    rw [List.not_all_eq_any_not]
    congr 1
    funext f
    rw [Bool.eq_iff_iff]
    simp
    omega
  rw [e, ea]
  cases l.isEmpty <;> cases l.all (fun f => decide (f < 6)) <;> cases Sy73.distinct l <;> cases Sy73.linked l <;> simp
theorem linked_B : ∀ (t : List Nat) (f : Nat), (∀ x ∈ t, x < 6) → Sy73.linked (f :: t) = true → linkedB f t = true
  | [], _, _, _ => rfl
  | g :: t, f, h6, h => by
    have h : (Sy73.beside f g && Sy73.linked (g :: t)) = true := h
    rw [Bool.and_eq_true] at h
    have b : (f / 2 != g / 2) = true := h.1
    have ih := linked_B t g (fun x hx => h6 x (.tail _ hx)) h.2
    show (decide (g < 6) && (f / 2 != g / 2) && linkedB g t) = true
    rw [b, ih, decide_eq_true (h6 g (.head _))]
    rfl
theorem isRow_ok {l : List Nat} (h : isRowM l = true) : RowOk l := by
  have h' : ¬ isRowM l = false := by
    rw [h]
    intro z
    cases z
  rw [← isRow_no] at h'
  simp only [not_or, Bool.not_eq_true, Bool.not_eq_false] at h'
  obtain ⟨h1, h2, h3, h4⟩ := h'
  cases l with
  | nil => cases h1
  | cons f t =>
    have h6 : ∀ x ∈ f :: t, x < 6 := by
      intro x hx
      rw [List.any_eq_false] at h2
      have := h2 x hx
      simp at this
      omega
    exact ⟨f, t, rfl, h6 f (.head _), linked_B t f (fun x hx => h6 x (.tail _ hx)) h4⟩
section
variable {P : Program} {w : World} {K : Frg} {mg : Str → Option Value} {base : Heap} {cS cE cL cB : Addr} {TT : List (Addr × Str)}
theorem c_straight_ways (D : DefOk K mg "straight_ways" s_straight_ways ["box"]) (T : Tx K mg cS cE cL cB) (c_spider_faces : C8.Cal P w K mg base 4 "spider_faces" (spFcS cB) []) (c_fly_faces : C8.Cal P w K mg base 4 "fly_faces" (spFcF cB) [])
    (c_laid_from : C8.Cal P w K mg base 11 "laid_from" (spFrom K cS cE cL) []) (c_is_straight_way : C8.Cal P w K mg base 3 "is_straight_way" (spStr K cS cE cL) []) (c_square_over : C8.Cal P w K mg base 3 "square_over" (spSqOver K cS cE cL) []) :
    C8.Cal P w K mg base 12 "straight_ways" (spWays cB) [] := by
  obtain ⟨f, fd, F, b⟩ := D.ex
  refine C8.cal0 F b .nil sc_straight_ways (fun vs H Q E h => ?_) (fun cdv A outer s H vs Q E hr h => ⟨_, (pss_cons (ps_set (i := 1) sc_straight_ways.nd rfl (Or.inl rfl) (C8.pe_c c_fly_faces hr (by omega) rfl (pa_cons (pv 0) pa_nil)))
    (pss_cons (ps_set (i := 2) sc_straight_ways.nd rfl (Or.inl rfl) (pe_lst pa_nil))
    (pss_cons (ps_for PassesOwn.never rfl (pi_list (C8.pe_c c_laid_from hr (by omega) rfl (pa_cons (pe_fld (pv 0) rfl) (pa_cons (C8.pe_c c_spider_faces hr (by omega) rfl (pa_cons (pv 0) pa_nil)) pa_nil)))) (pg_name (i := 3) sc_straight_ways.nd rfl (Or.inl rfl))
      (pss_one (ps_if (PW.pt (pw_and (pt_cmpR op_in_seq (pe_ix ix_list (pe_fld (pv 3) rfl) (pe_un un_neg pe_int) (fun _ _ => rfl)) (pv 1) rfl) (pw_and1 (pt_val (C8.pe_c c_is_straight_way hr (by omega) rfl (pa_cons (pv 3) (pa_cons (pe_fld (pv 0) rfl) (pa_cons (pe_fld (pv 0) rfl) pa_nil))))))))
      (pss_one (ps_expr (pe_bm PySem.F.plainAttrs_list PySem.F.slot_list_append PySem.F.type_list_append mt_append (pv 2) (pa_cons (pe_tup (pa_cons (C8.pe_c c_square_over hr (by omega) rfl (pa_cons (pv 3) (pa_cons (pe_fld (pv 0) rfl) (pa_cons (pe_fld (pv 0) rfl) pa_nil)))) (pa_cons (pe_fld (pv 3) rfl) pa_nil))) pa_nil))))
      pss_nil)))
    (pss_one (ps_ret (pv 2)))))), ?_⟩)
  · obtain ⟨B, st, rfl, _⟩ := h
    rfl
  · obtain ⟨B, st, rfl, ⟨dx, l, s, f, bx⟩, ok, k⟩ := h
    have h6 : ∀ g ∈ Sy73.facesOf st.box st.spider, g < 6 := fun g hg => mem_facesOf hg
    have hl6 : (Sy73.facesOf st.box st.spider).length ≤ 6 := by
      unfold Sy73.facesOf
      refine Nat.le_trans (List.length_filter_le _ _) ?_
      rw [List.length_range]
      exact Nat.le_refl _
    refine ⟨_, rfl, B, st, rfl, ⟨dx, l, s, f, bx⟩, ok, fun H1 lf t1 nlf hlf => ?_⟩
    refine ⟨Nat.zero_le _, fun R hR => ?_⟩
    have t2 := same_upd t1 (t1.free hR) (o := .lst [])
    have bx2 := bx.same t2
    have yR : orR (fun _ => False) R R := .inr rfl
    have oA2 : Old (orR (fun _ => False) R) (upd H1 R (.lst [])) := fun b z e => z.elim (fun z => z.elim) (fun z => by rw [z, upd_same] at e; cases e)
    refine ⟨_, rfl, B, cB, dx, _, _, rfl, bx2.at_, T.clB, T.aB.1, bx_lk1 .., _, rfl, B, st, rfl, ⟨dx, l, s, f, bx2⟩, ok, fun H3 sf t3 nsf hsf => ?_⟩
    refine ⟨orR (fun _ => False) R, l, sf, st.box, Sy73.facesOf st.box st.spider, oA2.same t3, rfl, SqL.of (t3 _ _ bx2.l_), ok.bx, SqL.of hsf, h6, hl6, fun H4 z las t4 nz hz rows4 => ⟨z, rfl, ⟨_, SqL.of hz⟩, ?_⟩⟩
    have t34 := t3.trans t4
    have t04 := t2.trans t34
    have hR4 : H4 R = some (.lst []) := t34 _ _ upd_same
    have zR : z ≠ R := fun e => by rw [e, t3 _ _ upd_same] at nz; cases nz
    have nR : H R = none := t1.free hR
    refine for_list (K := K) (a := z) (xs := refs las) (fun j σ H' => ∃ v as, σ = [some (.ref B), some (.ref lf), some (.ref R), v] ∧ Same H H' ∧ H' z = some (.lst (refs las)) ∧ H' lf = some (.lst ((Sy73.facesOf st.box st.fly).map nv)) ∧ Old (orR (fun _ => False) R) H' ∧ LrsAt cS cE cL st.box (wo H' (orR (fun _ => False) R)) las (allFrom (Sy73.facesOf st.box st.spider)) ∧
        H' R = some (.lst (refs as)) ∧ WaysAt (wo H' (orR (fun _ => False) R)) as (((allFrom (Sy73.facesOf st.box st.spider)).take j).filterMap (way1 st.box st.spider st.fly (Sy73.facesOf st.box st.fly))))
      ⟨none, [], rfl, t04, hz, t34 _ _ (by rw [upd_ne (ne_of_none hlf hR)]; exact hlf), (oA2.same t34), rows4, hR4, .nil⟩ (fun j σ H' _ h => by obtain ⟨_, _, _, _, h, _⟩ := h; exact SqL.of h) ?_ ?_
    · rintro j v σ H5 hj ⟨v3, as, rfl, t5, hz5, hlf5, oA5, rows5, hR5, inv5⟩
      obtain ⟨x, hx, rfl⟩ := refs_at hj
      obtain ⟨r, hr', lr⟩ := paired_at rows5 hx
      obtain ⟨dl, ra, z0, z1, L, es, LW⟩ := id lr
      have LI := LW.same (wo_le _ _)
      obtain ⟨y, hy, _⟩ := rowOk_last LI.ok
      have bx5 := bx.same t5
      have et := take_snoc hr'
      have jl : j < (allFrom (Sy73.facesOf st.box st.spider)).length := (List.getElem?_eq_some_iff.mp hr').1
      have skip : way1 st.box st.spider st.fly (Sy73.facesOf st.box st.fly) r = none → ∀ H6 : Hp, Same H5 H6 → H6 R = some (.lst (refs as)) → Old (orR (fun _ => False) R) H6 →
          ∃ v as, ([some (.ref B), some (.ref lf), some (.ref R), some (.ref x)] : L2.St) = [some (.ref B), some (.ref lf), some (.ref R), v] ∧ Same H H6 ∧ H6 z = some (.lst (refs las)) ∧ H6 lf = some (.lst ((Sy73.facesOf st.box st.fly).map nv)) ∧ Old (orR (fun _ => False) R) H6 ∧ LrsAt cS cE cL st.box (wo H6 (orR (fun _ => False) R)) las (allFrom (Sy73.facesOf st.box st.spider)) ∧
            H6 R = some (.lst (refs as)) ∧ WaysAt (wo H6 (orR (fun _ => False) R)) as (((allFrom (Sy73.facesOf st.box st.spider)).take (j + 1)).filterMap (way1 st.box st.spider st.fly (Sy73.facesOf st.box st.fly))) := by
        intro hw H6 t6 hR6 oA6
        refine ⟨_, as, rfl, t5.trans t6, t6 _ _ hz5, t6 _ _ hlf5, oA6, rows5.same (wo_same _ t6), hR6, ?_⟩
        rw [et, List.filterMap_append]
        have : [r].filterMap (way1 st.box st.spider st.fly (Sy73.facesOf st.box st.fly)) = [] := by simp [hw]
        rw [this, List.append_nil]
        exact inv5.same (wo_same _ t6)
      refine ⟨_, rfl, x, cL, dl, _, _, rfl, LI.at_, T.clL, T.aL.1, lr_lk1 .., _, rfl, _, _, _, _, rfl, rfl, SqL.of LI.row_, at_last hy, _, rfl, lf, _, rfl, .inl (SqL.of hlf5), rfl, flat_nv _, _, rfl, ?_⟩
      have e1 : (if false = true then !inV (nv y) ((Sy73.facesOf st.box st.fly).map nv) else inV (nv y) ((Sy73.facesOf st.box st.fly).map nv)) = lastIn (Sy73.facesOf st.box st.fly) r := by
        rw [if_neg Bool.false_ne_true, inV_nv]
        unfold lastIn
        rw [hy]
        rfl
      rw [e1]
      refine ite2 (fun c => ?_) (fun c => ?_)
      · refine ⟨_, rfl, _, rfl, B, cB, dx, _, _, rfl, bx5.at_, T.clB, T.aB.2.1, bx_lk2 .., _, rfl, B, cB, dx, _, _, rfl, bx5.at_, T.clB, T.aB.2.2, bx_lk3 .., x, s, f, st.box, r, st.spider, st.fly, rfl, ⟨dl, ra, z0, z1, L, es, LI⟩, ok.bx, SqL.of bx5.s_, ok.sP, SqL.of bx5.f_, ok.fP, fun H6 t6 => ⟨_, rfl, ?_⟩⟩
        have bx6 := bx5.same t6
        have LI6 := LI.same t6
        have hw := way1_yes (box := st.box) (p := st.spider) (q := st.fly) c LI.ok.ne
        refine ite2 (fun c2 => ?_) (fun c2 => ?_)
        · rw [if_pos c2] at hw
          refine ⟨_, rfl, .inl ⟨rfl, _, SqL.of (t6 _ _ hR5)⟩, _, rfl, _, rfl, B, cB, dx, _, _, rfl, bx6.at_, T.clB, T.aB.2.1, bx_lk2 .., _, rfl, B, cB, dx, _, _, rfl, bx6.at_, T.clB, T.aB.2.2, bx_lk3 .., x, s, f, st.box, r, st.spider, st.fly, rfl, ⟨dl, ra, z0, z1, L, es, LI6⟩, ok.bx, SqL.of bx6.s_, ok.sP, SqL.of bx6.f_, ok.fP, fun H7 t7 => ?_⟩
          have LI7 := LI6.same t7
          have t57 := t6.trans t7
          refine ⟨_, rfl, x, cL, dl, _, _, rfl, LI7.at_, T.clL, T.aL.1, lr_lk1 .., fits (m := 2) (Nat.le_refl _), fun t ht => ?_⟩
          have hR7 := t57 _ _ hR5
          have tR : R ≠ t := ne_of_none hR7 ht
          have t8 := same_upd (Same.refl H7) ht (o := .tup [.int (sqB st.box st.spider st.fly r), .ref ra])
          have t58 := t57.trans t8
          refine ⟨R, refs as, .ref t, rfl, rfl, t8 _ _ hR7, ?_, ?_⟩
          · have l1 := inv5.length
            have l2 := List.length_filterMap_le (way1 st.box st.spider st.fly (Sy73.facesOf st.box st.fly)) ((allFrom (Sy73.facesOf st.box st.spider)).take j)
            have l3 := all_len (Sy73.facesOf st.box st.spider)
            have l4 := Nat.mul_le_mul_right (7 ^ 5) hl6
            rw [List.length_take] at l2
            rw [refs_len]
            exact Nat.lt_of_le_of_lt (show as.length ≤ 6 * 7 ^ 5 by omega) (by decide)
          · refine ⟨_, as ++ [t], rfl, same_upd (t5.trans t58) nR, ?_, ?_, (oA5.same t58).upd, ?_, ?_, ?_⟩
            · rw [upd_ne zR]
              exact t58 _ _ hz5
            · rw [upd_ne (fun e => by rw [e, hR5] at hlf5; exact absurd (t1.free hR) (by rw [← e] at hR; rw [hlf] at hR; cases hR))]
              exact t58 _ _ hlf5
            · rw [wo_upd yR]
              exact rows5.same (wo_same _ t58)
            · rw [upd_same, refs_snoc]
            · rw [wo_upd yR, et, List.filterMap_append]
              have : [r].filterMap (way1 st.box st.spider st.fly (Sy73.facesOf st.box st.fly)) = [(sqB st.box st.spider st.fly r, r)] := by simp [hw]
              rw [this]
              refine paired_app (inv5.same (wo_same _ t58)) (.cons ⟨ra, wo_get upd_same (fun z => z.elim (fun z => z) (fun z => tR z.symm)), LI.ok.ne, ?_⟩ .nil)
              exact wo_same _ t58 _ _ LW.row_
        · rw [if_neg c2] at hw
          exact skip hw H6 t6 (t6 _ _ hR5) (oA5.same t6)
      · exact skip (way1_no c) H5 (Same.refl _) hR5 oA5
    · rintro σ H5 ⟨v3, as, rfl, t5, hz5, hlf5, oA5, rows5, hR5, inv5⟩
      have el : (refs las).length = (allFrom (Sy73.facesOf st.box st.spider)).length := by rw [refs_len, rows5.length]
      rw [el, List.take_length, ← waysM_all] at inv5
      exact ⟨_, rfl, k _ _ as t5 nR hR5 (inv5.same (wo_le _ _))⟩
end
end SF

/-! ## WE -/
set_option Elab.async false
set_option maxRecDepth 100000
set_option maxHeartbeats 2000000
namespace SF
open PySem PySem.Spec PyProof.Rows L2 LamX
abbrev s_answer_straight : Stmt := top 47
abbrev N_answer_straight : List Str := ["box", "nothing", "here", "there"]
theorem sc_answer_straight : FnScope N_answer_straight ["box", "nothing"] (C8.fnScope s_answer_straight) := C8.fnScope_by (by decide +kernel)
abbrev s_may_be_searched : Stmt := top 48
abbrev N_may_be_searched : List Str := ["box"]
theorem sc_may_be_searched : FnScope N_may_be_searched ["box"] (C8.fnScope s_may_be_searched) := C8.fnScope_by (by decide +kernel)
abbrev s_answer_faces : Stmt := top 52
abbrev N_answer_faces : List Str := ["box", "nothing", "faces"]
theorem sc_answer_faces : FnScope N_answer_faces ["box", "nothing"] (C8.fnScope s_answer_faces) := C8.fnScope_by (by decide +kernel)
abbrev s_answer_state : Stmt := top 53
abbrev N_answer_state : List Str := ["box", "nothing"]
theorem sc_answer_state : FnScope N_answer_state ["box", "nothing"] (C8.fnScope s_answer_state) := C8.fnScope_by (by decide +kernel)
def spSmall (cB : Addr) : Sp := fun vs H Q _ => ∃ (B : Addr) (st : Sy73.St), vs = [.ref B] ∧ BxAt cB H B st ∧ StOk st ∧ Q (.bl (Sy73.small st.box)) H
theorem along_st {st : Sy73.St} (ok : StOk st) {l : List Nat} (h : RowOk l) : Sy73.along st.box st.spider st.fly l = if strB st.box st.spider st.fly l = true then some (sqB st.box st.spider st.fly l) else none := by
  rw [← along_str h.ne]
  obtain ⟨f, t, rfl, hf, hl⟩ := h
  exact along_eq (fun i hi => ok.b1 i hi) ok.sp.le hf hl
theorem over_step {st : Sy73.St} (l : List Nat) : Sy73.step st (.over l) = (st, if isRowM l = false then Sy73.ok (-1) else if (l.head?).any (Sy73.onFace st.box st.spider) = false ∨ (l.getLast?).any (Sy73.onFace st.box st.fly) = false then Sy73.ok (-4) else match Sy73.along st.box st.spider st.fly l with
      | none => Sy73.ok (-6)
      | some d => Sy73.ok d) := by
  show (st, _) = (st, _)
  congr 1
  by_cases h : isRowM l = false
  · rw [if_pos h, if_pos ((isRow_no l).mpr h)]
  · rw [if_neg h, if_neg (fun z => h ((isRow_no l).mp z))]
    cases Sy73.along st.box st.spider st.fly l <;> rfl
section
variable {P : Program} {w : World} {K : Frg} {mg : Str → Option Value} {base : Heap} {cS cE cL cB : Addr} {TT : List (Addr × Str)}
theorem c_joins (D : DefOk K mg "joins" s_joins ["box", "row"]) (T : Tx K mg cS cE cL cB) (c_spider_faces : C8.Cal P w K mg base 4 "spider_faces" (spFcS cB) []) (c_fly_faces : C8.Cal P w K mg base 4 "fly_faces" (spFcF cB) []) : C8.Cal P w K mg base 5 "joins" (spJoins cB) [] := by
  obtain ⟨f, fd, F, b⟩ := D.ex
  refine C8.cal0 F b .nil sc_joins (fun vs H Q E h => ?_) (fun cdv A outer s H vs Q E hr h => ⟨_, (pss_one (ps_ret (pe_and (pe_cmpR op_in_seq (pe_ix ix_list (pv 1) pe_int (fun _ _ => rfl)) (C8.pe_c c_spider_faces hr (by omega) rfl (pa_cons (pv 0) pa_nil)) rfl) (pe_one (pe_cmpR op_in_seq (pe_ix ix_list (pv 1) (pe_un un_neg pe_int) (fun _ _ => rfl)) (C8.pe_c c_fly_faces hr (by omega) rfl (pa_cons (pv 0) pa_nil)) rfl))))), ?_⟩)
  · obtain ⟨B, h, st, f, t, rfl, _⟩ := h
    rfl
  · obtain ⟨B, h, st, f, t, rfl, bx, ok, hH, k⟩ := h
    refine ⟨_, rfl, _, _, _, _, rfl, rfl, SqL.of hH, at_nv (l := f :: t) (i := 0) (Nat.succ_pos _), _, rfl, B, st, rfl, bx, ok, fun H1 q1 t1 nq1 hq1 => ?_⟩
    refine ⟨q1, _, rfl, .inl (SqL.of hq1), rfl, flat_nv _, _, rfl, ?_⟩
    have e1 : (if false = true then !inV (nv f) ((Sy73.facesOf st.box st.spider).map nv) else inV (nv f) ((Sy73.facesOf st.box st.spider).map nv)) = (Sy73.facesOf st.box st.spider).contains f := by
      rw [if_neg Bool.false_ne_true, inV_nv]
    have eg : nv ((f :: t).getD 0 0) = nv f := rfl
    rw [eg, e1]
    have k1 : ∀ H' : Hp, Same H H' → _ := k
    refine ite2 (fun c => ?_) (fun c => ?_)
    · obtain ⟨y, hy⟩ : ∃ y, (f :: t).getLast? = some y := ⟨_, List.getLast?_cons⟩
      refine ⟨_, rfl, _, rfl, _, _, _, _, rfl, rfl, SqL.of (t1 _ _ hH), at_last hy, _, rfl, B, st, rfl, bx.same t1, ok, fun H2 q2 t2 nq2 hq2 => ?_⟩
      refine ⟨q2, _, rfl, .inl (SqL.of hq2), rfl, flat_nv _, ?_⟩
      have e2 : (if false = true then !inV (nv y) ((Sy73.facesOf st.box st.fly).map nv) else inV (nv y) ((Sy73.facesOf st.box st.fly).map nv)) = lastIn (Sy73.facesOf st.box st.fly) (f :: t) := by
        rw [if_neg Bool.false_ne_true, inV_nv]
        unfold lastIn
        rw [hy]
        rfl
      rw [e2]
      have := k _ (t1.trans t2)
      rw [c, Bool.true_and] at this
      exact this
    · have c : (Sy73.facesOf st.box st.spider).contains f = false := by simpa using c
      have := k _ t1
      rw [c, Bool.false_and] at this
      exact this
theorem c_answer_over (D : DefOk K mg "answer_over" s_answer_over ["box", "faces"]) (T : Tx K mg cS cE cL cB) (c_is_row : C8.Cal P w K mg base 3 "is_row" (spIsRow K) []) (c_joins : C8.Cal P w K mg base 5 "joins" (spJoins cB) []) (c_lay : C8.Cal P w K mg base 5 "lay" (spLay K cS cE cL) [])
    (c_is_straight_way : C8.Cal P w K mg base 3 "is_straight_way" (spStr K cS cE cL) []) (c_square_over : C8.Cal P w K mg base 3 "square_over" (spSqOver K cS cE cL) []) : C8.Cal P w K mg base 6 "answer_over" (AnsSp TT cB (fun c hs => c = .over hs ∧ hs.length ≤ 60)) [] := by
  obtain ⟨f, fd, F, b⟩ := D.ex
  refine C8.cal0 F b .nil sc_answer_over (fun vs H Q E h => ?_) (fun cdv A outer s H vs Q E hr h => ⟨_, (pss_cons (ps_if (pt_not (pt_val (C8.pe_c c_is_row hr (by omega) rfl (pa_cons (pv 1) pa_nil))))
      (pss_one (ps_ret (pe_lst (pa_cons (pe_un un_neg pe_int) pa_nil))))
      pss_nil)
    (pss_cons (ps_if (pt_not (pt_val (C8.pe_c c_joins hr (by omega) rfl (pa_cons (pv 0) (pa_cons (pv 1) pa_nil)))))
      (pss_one (ps_ret (pe_lst (pa_cons (pe_un un_neg pe_int) pa_nil))))
      pss_nil)
    (pss_cons (ps_set (i := 2) sc_answer_over.nd rfl (Or.inl rfl) (C8.pe_c c_lay hr (by omega) rfl (pa_cons (pe_fld (pv 0) rfl) (pa_cons (pv 1) pa_nil))))
    (pss_cons (ps_if (pt_not (pt_val (C8.pe_c c_is_straight_way hr (by omega) rfl (pa_cons (pv 2) (pa_cons (pe_fld (pv 0) rfl) (pa_cons (pe_fld (pv 0) rfl) pa_nil))))))
      (pss_one (ps_ret (pe_lst (pa_cons (pe_un un_neg pe_int) pa_nil))))
      pss_nil)
    (pss_one (ps_ret (pe_lst (pa_cons (C8.pe_c c_square_over hr (by omega) rfl (pa_cons (pv 2) (pa_cons (pe_fld (pv 0) rfl) (pa_cons (pe_fld (pv 0) rfl) pa_nil)))) pa_nil)))))))), ?_⟩)
  · obtain ⟨B, h, st, c, hs, rfl, _⟩ := h
    rfl
  · obtain ⟨B, h, st, c, hs, rfl, ⟨dx, l, s, f, bx⟩, ok, hH, ⟨rfl, h60⟩, tb, k⟩ := h
    rw [over_step] at k
    have ret : ∀ (H1 : Hp) (n : Int) (o : HO), Same H H1 → o = .lst [.int n] → (∀ (H' : Hp) (q : Addr), Kq TT cB h B H H' → H q = none → H' q = some (.lst [.int n]) → BxAt cB H' B st → Q (.ref q) H') → ∀ q, H1 q = none → Q (.ref q) (upd H1 q o) := by
      intro H1 n o t1 ho kk q hq
      rw [ho]
      exact kk _ q (kq_same tb (same_upd t1 (t1.free hq))) (t1.free hq) upd_same ⟨dx, l, s, f, bx.same (same_upd t1 (t1.free hq))⟩
    refine ⟨_, rfl, h, hs, rfl, SqL.of hH, by omega, fun H1 t1 => ⟨_, rfl, ?_⟩⟩
    refine ite2 (fun c => ?_) (fun c => ?_)
    · have c : isRowM hs = false := by simpa using c
      rw [if_pos c] at k
      exact ⟨_, rfl, fits (m := 1) (Nat.le_refl _), ret H1 (-1) _ t1 rfl k⟩
    · have c : isRowM hs = true := by simpa using c
      have okR := isRow_ok c
      rw [if_neg (by rw [c]; intro z; cases z)] at k
      obtain ⟨g, t, rfl, hg, hlk⟩ := id okR
      have ea := along_st ok okR
      rw [ea] at k
      refine ⟨_, rfl, _, rfl, B, h, st, g, t, rfl, ⟨dx, l, s, f, bx.same t1⟩, ok, t1 _ _ hH, fun H2 t2 => ⟨_, rfl, ?_⟩⟩
      have t12 := t1.trans t2
      have e1 : (((g :: t).head?).any (Sy73.onFace st.box st.spider) = false ∨ ((g :: t).getLast?).any (Sy73.onFace st.box st.fly) = false) ↔ ((Sy73.facesOf st.box st.spider).contains g && lastIn (Sy73.facesOf st.box st.fly) (g :: t)) = false := by
        obtain ⟨y, hy, hy6⟩ := rowOk_last okR
        unfold lastIn
        rw [hy]
        show (Sy73.onFace st.box st.spider g = false ∨ Sy73.onFace st.box st.fly y = false) ↔ ((Sy73.facesOf st.box st.spider).contains g && (Sy73.facesOf st.box st.fly).contains y) = false
        rw [facesOf_contains _ _ _ hg, facesOf_contains _ _ _ hy6, Bool.and_eq_false_iff]
      refine ite2 (fun c => ?_) (fun c => ?_)
      · rw [Bool.not_eq_true'] at c
        rw [if_pos (e1.mpr c)] at k
        exact ⟨_, rfl, fits (m := 1) (Nat.le_refl _), ret H2 (-4) _ t12 rfl k⟩
      · rw [Bool.not_eq_true'] at c
        rw [if_neg (fun z => c (e1.mp z))] at k
        have bx2 := bx.same t12
        refine ⟨_, rfl, B, cB, dx, _, _, rfl, bx2.at_, T.clB, T.aB.1, bx_lk1 .., _, rfl, l, h, st.box, g :: t, rfl, SqL.of bx2.l_, ok.bx, SqL.of (t12 _ _ hH), okR, by omega, fun H3 x t3 lr => ?_⟩
        have t13 := t12.trans t3
        have bx3 := bx.same t13
        refine ⟨_, rfl, _, rfl, B, cB, dx, _, _, rfl, bx3.at_, T.clB, T.aB.2.1, bx_lk2 .., _, rfl, B, cB, dx, _, _, rfl, bx3.at_, T.clB, T.aB.2.2, bx_lk3 .., x, s, f, st.box, g :: t, st.spider, st.fly, rfl, lr, ok.bx, SqL.of bx3.s_, ok.sP, SqL.of bx3.f_, ok.fP, fun H4 t4 => ⟨_, rfl, ?_⟩⟩
        have t14 := t13.trans t4
        refine ite2 (fun c => ?_) (fun c => ?_)
        · have c : strB st.box st.spider st.fly (g :: t) = false := by simpa using c
          rw [if_neg (by rw [c]; intro z; cases z)] at k
          exact ⟨_, rfl, fits (m := 1) (Nat.le_refl _), ret H4 (-6) _ t14 rfl k⟩
        · have c : strB st.box st.spider st.fly (g :: t) = true := by simpa using c
          rw [if_pos c] at k
          have bx4 := bx.same t14
          exact ⟨_, rfl, _, rfl, B, cB, dx, _, _, rfl, bx4.at_, T.clB, T.aB.2.1, bx_lk2 .., _, rfl, B, cB, dx, _, _, rfl, bx4.at_, T.clB, T.aB.2.2, bx_lk3 .., x, s, f, st.box, g :: t, st.spider, st.fly, rfl, lr.same t4, ok.bx, SqL.of bx4.s_, ok.sP, SqL.of bx4.f_, ok.fP, fun H5 t5 => ⟨fits (m := 1) (Nat.le_refl _), ret H5 _ _ (t14.trans t5) rfl k⟩⟩
theorem c_may_be_searched (D : DefOk K mg "may_be_searched" s_may_be_searched ["box"]) (T : Tx K mg cS cE cL cB) : C8.Cal P w K mg base 1 "may_be_searched" (spSmall cB) [] := by
  obtain ⟨f, fd, F, b⟩ := D.ex
  refine C8.cal0 F b .nil sc_may_be_searched (fun vs H Q E h => ?_) (fun cdv A outer s H vs Q E hr h => ⟨_, (pss_one (ps_ret (pe_cmpR op_le (pe_callB (cr_max rfl) (by rfl) T.n_max (by decide +kernel) (pa_cons (pe_fld (pv 0) rfl) pa_nil)) (pe_globI rfl T.g_LONGEST_SEARCHED) (nomark _)))), ?_⟩)
  · obtain ⟨B, st, rfl, _⟩ := h
    rfl
  · obtain ⟨B, st, rfl, ⟨dx, l, s, f, bx⟩, ok, k⟩ := h
    have hI : SqL K H l ((st.box.map (fun (n : Nat) => (n : Int))).map V.int) := by
      rw [← nv_map]
      exact SqL.of bx.l_
    refine ⟨_, rfl, B, cB, dx, _, _, rfl, bx.at_, T.clB, T.aB.1, bx_lk1 .., l, _, rfl, hI, by rw [List.length_map, ok.b3]; decide, fun m hm hle => ⟨_, _, rfl, rfl, ?_⟩⟩
    have e : decide (m ≤ 4) = Sy73.small st.box := by
      obtain ⟨x, y, z, e3⟩ := take3 st.box ok.b3
      rw [e3] at hm hle ⊢
      have hm : m = (x : Int) ∨ m = (y : Int) ∨ m = (z : Int) := by simpa using hm
      have j1 := hle (x : Int) (by simp)
      have j2 := hle (y : Int) (by simp)
      have j3 := hle (z : Int) (by simp)
      show _ = (decide (x ≤ 4) && (decide (y ≤ 4) && (decide (z ≤ 4) && true)))
      rw [Bool.eq_iff_iff]
      simp only [Bool.and_eq_true, decide_eq_true_eq, and_true]
      omega
    show Q (.bl (decide (m ≤ 4))) H
    rw [e]
    exact k
theorem c_answer_faces (D : DefOk K mg "answer_faces" s_answer_faces ["box", "nothing"]) (T : Tx K mg cS cE cL cB) (c_spider_faces : C8.Cal P w K mg base 4 "spider_faces" (spFcS cB) []) (c_fly_faces : C8.Cal P w K mg base 4 "fly_faces" (spFcF cB) []) (c_told_list : C8.Cal P w K mg base 1 "told_list" (spTold K) []) :
    C8.Cal P w K mg base 5 "answer_faces" (AnsSp TT cB (fun c hs => c = .faces)) [] := by
  obtain ⟨f, fd, F, b⟩ := D.ex
  refine C8.cal0 F b .nil sc_answer_faces (fun vs H Q E h => ?_) (fun cdv A outer s H vs Q E hr h => ⟨_, (pss_cons (ps_set (i := 2) sc_answer_faces.nd rfl (Or.inl rfl) (C8.pe_c c_spider_faces hr (by omega) rfl (pa_cons (pv 0) pa_nil)))
    (pss_one (ps_ret (pe_op op_cat (pe_op op_cat (pe_lst (pa_cons (pe_callB call_len_seq (by rfl) T.n_len PySem.boot_len (pa_cons (pv 2) pa_nil)) pa_nil)) (C8.pe_c c_told_list hr (by omega) rfl (pa_cons (pv 2) pa_nil))) (C8.pe_c c_told_list hr (by omega) rfl (pa_cons (C8.pe_c c_fly_faces hr (by omega) rfl (pa_cons (pv 0) pa_nil)) pa_nil)))))), ?_⟩)
  · obtain ⟨B, h, st, c, hs, rfl, _⟩ := h
    rfl
  · obtain ⟨B, h, st, c, hs, rfl, bx, ok, hH, rfl, tb, k⟩ := h
    have l6 : ∀ box p : List Nat, (Sy73.facesOf box p).length ≤ 6 := fun box p => by
      unfold Sy73.facesOf
      refine Nat.le_trans (List.length_filter_le _ _) ?_
      rw [List.length_range]
      exact Nat.le_refl _
    have la := l6 st.box st.spider
    have lb := l6 st.box st.fly
    refine ⟨_, rfl, B, st, rfl, bx, ok, fun H1 q1 t1 nq1 hq1 => ?_⟩
    refine ⟨_, rfl, q1, _, rfl, .inl (SqL.of hq1), fits (m := 1) (Nat.le_refl _), fun p hp => ?_⟩
    have t2 := same_upd (Same.refl H1) hp (o := .lst [.int (((Sy73.facesOf st.box st.spider).map nv).length : Nat)])
    refine ⟨_, rfl, q1, _, rfl, t2 _ _ hq1, by rw [List.length_map]; omega, fun H3 q3 t3 nq3 hq3 => ?_⟩
    refine ⟨p, q3, _, _, rfl, rfl, t3 _ _ upd_same, hq3, fits (m := 8) ?_, fun p4 hp4 => ?_⟩
    · simp only [List.length_cons, List.length_map, List.length_nil]
      omega
    have t13 := t1.trans (t2.trans t3)
    have t4 := same_upd t13 (t13.free hp4) (o := .lst ([.int (((Sy73.facesOf st.box st.spider).map nv).length : Nat)] ++ .int (((Sy73.facesOf st.box st.spider).map nv).length : Nat) :: (Sy73.facesOf st.box st.spider).map nv))
    refine ⟨_, rfl, B, st, rfl, bx.same t4, ok, fun H5 q5 t5 nq5 hq5 => ?_⟩
    refine ⟨q5, _, rfl, hq5, by rw [List.length_map]; omega, fun H6 q6 t6 nq6 hq6 => ?_⟩
    refine ⟨p4, q6, _, _, rfl, rfl, (t5.trans t6) _ _ upd_same, hq6, fits (m := 15) ?_, fun p7 hp7 => ?_⟩
    · simp only [List.length_cons, List.length_map, List.length_nil, List.length_append]
      omega
    have t06 := t4.trans (t5.trans t6)
    refine k _ p7 (kq_same tb (same_upd t06 (t06.free hp7))) (t06.free hp7) ?_ (bx.same (same_upd t06 (t06.free hp7)))
    rw [upd_same]
    have eo : outV (Sy73.step st .faces).2 = ([.int (((Sy73.facesOf st.box st.spider).length : Nat) : Int)] ++ .int (((Sy73.facesOf st.box st.spider).length : Nat) : Int) :: (Sy73.facesOf st.box st.spider).map nv) ++ .int (((Sy73.facesOf st.box st.fly).length : Nat) : Int) :: (Sy73.facesOf st.box st.fly).map nv := by
      unfold outV Sy73Neutral.out
      show List.map V.int ((((Sy73.facesOf st.box st.spider).length : Nat) : Int) :: ([Sy73.ints (Sy73.facesOf st.box st.spider), Sy73.ints (Sy73.facesOf st.box st.fly)].flatMap fun (w : List Int) => (w.length : Int) :: w)) = _
      simp [Sy73.ints]
      rfl
    rw [eo]
    simp only [List.length_map]
theorem c_answer_state (D : DefOk K mg "answer_state" s_answer_state ["box", "nothing"]) (T : Tx K mg cS cE cL cB) (c_told_list : C8.Cal P w K mg base 1 "told_list" (spTold K) []) :
    C8.Cal P w K mg base 2 "answer_state" (AnsSp TT cB (fun c hs => c = .state)) [] := by
  obtain ⟨f, fd, F, b⟩ := D.ex
  refine C8.cal0 F b .nil sc_answer_state (fun vs H Q E h => ?_) (fun cdv A outer s H vs Q E hr h => ⟨_, (pss_one (ps_ret (pe_op op_cat (pe_op op_cat (pe_op op_cat (pe_lst (pa_cons pe_int pa_nil)) (C8.pe_c c_told_list hr (by omega) rfl (pa_cons (pe_fld (pv 0) rfl) pa_nil))) (C8.pe_c c_told_list hr (by omega) rfl (pa_cons (pe_fld (pv 0) rfl) pa_nil))) (C8.pe_c c_told_list hr (by omega) rfl (pa_cons (pe_fld (pv 0) rfl) pa_nil))))), ?_⟩)
  · obtain ⟨B, h, st, c, hs, rfl, _⟩ := h
    rfl
  · obtain ⟨B, h, st, c, hs, rfl, ⟨dx, l, s, f, bx⟩, ok, hH, rfl, tb, k⟩ := h
    have lm : ∀ {x : List Nat}, x.length = 3 → (x.map nv).length = 3 := fun h => by rw [List.length_map, h]
    have hb3 := lm ok.b3
    have hs3 := lm ok.s3
    have hf3 := lm ok.f3
    refine ⟨fits (m := 1) (Nat.le_refl _), fun p hp => ?_⟩
    have t1 := same_upd (Same.refl H) hp (o := .lst [.int 0])
    have bx1 := bx.same t1
    refine ⟨_, rfl, B, cB, dx, _, _, rfl, bx1.at_, T.clB, T.aB.1, bx_lk1 .., l, _, rfl, bx1.l_, by omega, fun H2 q2 t2 nq2 hq2 => ?_⟩
    refine ⟨p, q2, _, _, rfl, rfl, t2 _ _ upd_same, hq2, fits (m := 8) ?_, fun p3 hp3 => ?_⟩
    · simp only [List.length_cons, List.length_nil]
      omega
    have t02 := t1.trans t2
    have t3 := same_upd t02 (t02.free hp3) (o := .lst ([.int 0] ++ .int ((st.box.map nv).length : Nat) :: st.box.map nv))
    have bx3 := bx.same t3
    refine ⟨_, rfl, B, cB, dx, _, _, rfl, bx3.at_, T.clB, T.aB.2.1, bx_lk2 .., s, _, rfl, bx3.s_, by omega, fun H4 q4 t4 nq4 hq4 => ?_⟩
    refine ⟨p3, q4, _, _, rfl, rfl, t4 _ _ upd_same, hq4, fits (m := 15) ?_, fun p5 hp5 => ?_⟩
    · simp only [List.length_cons, List.length_nil, List.length_append]
      omega
    have t04 := t3.trans t4
    have t5 := same_upd t04 (t04.free hp5) (o := .lst (([.int 0] ++ .int ((st.box.map nv).length : Nat) :: st.box.map nv) ++ .int ((st.spider.map nv).length : Nat) :: st.spider.map nv))
    have bx5 := bx.same t5
    refine ⟨_, rfl, B, cB, dx, _, _, rfl, bx5.at_, T.clB, T.aB.2.2, bx_lk3 .., f, _, rfl, bx5.f_, by omega, fun H6 q6 t6 nq6 hq6 => ?_⟩
    refine ⟨p5, q6, _, _, rfl, rfl, t6 _ _ upd_same, hq6, fits (m := 25) ?_, fun p7 hp7 => ?_⟩
    · simp only [List.length_cons, List.length_nil, List.length_append]
      omega
    have t06 := t5.trans t6
    refine k _ p7 (kq_same tb (same_upd t06 (t06.free hp7))) (t06.free hp7) ?_ ⟨dx, l, s, f, bx.same (same_upd t06 (t06.free hp7))⟩
    rw [upd_same]
    have eo : outV (Sy73.step st .state).2 = (([.int 0] ++ .int ((st.box.length : Nat) : Int) :: st.box.map nv) ++ .int ((st.spider.length : Nat) : Int) :: st.spider.map nv) ++ .int ((st.fly.length : Nat) : Int) :: st.fly.map nv := by
      unfold outV Sy73Neutral.out
      show List.map V.int (0 :: ([Sy73.ints st.box, Sy73.ints st.spider, Sy73.ints st.fly].flatMap fun (w : List Int) => (w.length : Int) :: w)) = _
      simp [Sy73.ints]
      rfl
    rw [eo]
    simp only [List.length_map]
theorem c_answer_straight (D : DefOk K mg "answer_straight" s_answer_straight ["box", "nothing"]) (T : Tx K mg cS cE cL cB) : C8.Cal P w K mg base 1 "answer_straight" (AnsSp TT cB (fun c hs => c = .straight)) [] := by
  obtain ⟨f, fd, F, b⟩ := D.ex
  refine C8.cal0 F b .nil sc_answer_straight (fun vs H Q E h => ?_) (fun cdv A outer s H vs Q E hr h => ⟨_, (pss_one (ps_ret (pe_lst (pa_cons (pe_callB (cr_sum rfl) (by rfl) T.n_sum (by decide +kernel) (pa_cons (pe_lc (own := [("here", 2), ("there", 3)]) (g := (gTup K 2 (gCons (gName 2) (gCons (gName 3) gNil)))) rfl sc_answer_straight.nd (pi_zip rfl T.n_zip (pa_cons (pe_fld (pv 0) rfl) (pa_cons (pe_fld (pv 0) rfl) pa_nil))) (blkOk_by (own := [("here", 2), ("there", 3)]) (N := N_answer_straight) (sc := (C8.fnScope s_answer_straight)) (by decide +kernel)) (fun _ _ _ _ _ => pg_tupK K rfl (pgs_cons (pg_name (i := 2) sc_answer_straight.nd rfl (Or.inl rfl)) (pgs_cons (pg_name (i := 3) sc_answer_straight.nd rfl (Or.inl rfl)) pgs_nil))) (fun _ _ _ _ _ => pts_nil) (fun _ _ _ _ _ => (pe_op op_pow (pe_op op_sub (pv 3) (pv 2)) pe_int))) pa_nil)) pa_nil)))), ?_⟩)
  · obtain ⟨B, h, st, c, hs, rfl, _⟩ := h
    rfl
  · obtain ⟨B, h, st, c, hs, rfl, ⟨dx, l, s, f, bx⟩, ok, hH, rfl, tb, k⟩ := h
    obtain ⟨a0, a1, a2, ea⟩ := take3 st.spider ok.s3
    obtain ⟨b0, b1, b2, eb⟩ := take3 st.fly ok.f3
    have hP := ok.sP.2
    have hF := ok.fP.2
    have sd : ∀ (i : Nat) (x y : V), (st.spider.map nv)[i]? = some x → (st.fly.map nv)[i]? = some y → ∃ n m : Nat, x = nv n ∧ y = nv m ∧ n ≤ 40 ∧ m ≤ 40 ∧ (([((b0 : Int) - a0) ^ 2, ((b1 : Int) - a1) ^ 2, ((b2 : Int) - a2) ^ 2] : List Int).map V.int)[i]? = some (V.int (((m : Int) - n) ^ 2)) := by
      intro i x y h1 h2
      rw [ea] at h1
      rw [eb] at h2
      have p0 := hP 0
      have p1 := hP 1
      have p2 := hP 2
      have q0 := hF 0
      have q1 := hF 1
      have q2 := hF 2
      rw [ea] at p0 p1 p2
      rw [eb] at q0 q1 q2
      match i, h1, h2 with
      | 0, h1, h2 =>
        cases h1
        cases h2
        exact ⟨a0, b0, rfl, rfl, p0, q0, rfl⟩
      | 1, h1, h2 =>
        cases h1
        cases h2
        exact ⟨a1, b1, rfl, rfl, p1, q1, rfl⟩
      | 2, h1, h2 =>
        cases h1
        cases h2
        exact ⟨a2, b2, rfl, rfl, p2, q2, rfl⟩
      | i + 3, h1, h2 => simp at h1
    have ln : 3 = min (st.spider.map nv).length (st.fly.map nv).length := by
      rw [List.length_map, List.length_map, ok.s3, ok.f3]
      rfl
    refine ⟨_, rfl, B, cB, dx, _, _, rfl, bx.at_, T.clB, T.aB.2.1, bx_lk2 .., _, rfl, B, cB, dx, _, _, rfl, bx.at_, T.clB, T.aB.2.2, bx_lk3 .., s, f, _, _, rfl, SqL.of bx.s_, SqL.of bx.f_, fun D hD => ?_⟩
    refine lc_it (walk_zip ln) (fun i H1 => Same H H1 ∧ H1 D = some (.lst ((([((b0 : Int) - a0) ^ 2, ((b1 : Int) - a1) ^ 2, ((b2 : Int) - a2) ^ 2] : List Int).map V.int).take i))) ⟨same_upd (Same.refl _) hD, upd_same⟩ (fun i H1 _ h => ⟨SqL.of (h.1 _ _ bx.s_), SqL.of (h.1 _ _ bx.f_)⟩) ?_ ?_
    · rintro i x H1 H2 hi ⟨s1, hd⟩ ⟨t, x1, y1, rfl, ht, rfl, hx, hy⟩
      obtain ⟨n, m, rfl, rfl, hn, hm, hsq⟩ := sd i x1 y1 hx hy
      have t2 := same_upd (Same.refl H1) ht (o := .tup [nv n, nv m])
      refine ⟨t, _, rfl, SqT.of upd_same, rfl, _, _, rfl, _, _, rfl, rfl, rfl, ?_⟩
      refine ⟨_, rfl, _, rfl, _, _, rfl, rfl, _, _, rfl, rfl, ⟨by decide, by decide, ?_⟩, _, t2 _ _ hd, ?_, ?_, ?_⟩
      · have : ((m : Int) - n).natAbs < 2 ^ 64 := by omega
        exact this
      · refine small1000 ?_
        rw [List.length_take]
        show min i 3 ≤ 1000
        omega
      · exact same_upd (s1.trans t2) hD
      · rw [upd_same, take_snoc hsq]
        rfl
    · rintro H1 ⟨s1, hd⟩
      have hd' : H1 D = some (.lst (([((b0 : Int) - a0) ^ 2, ((b1 : Int) - a1) ^ 2, ((b2 : Int) - a2) ^ 2] : List Int).map V.int)) := hd
      refine ⟨D, _, rfl, SqL.of hd', fits (m := 1) (Nat.le_refl _), fun q hq => ?_⟩
      refine k _ q (kq_same tb (same_upd s1 (s1.free hq))) (s1.free hq) ?_ ⟨dx, l, s, f, bx.same (same_upd s1 (s1.free hq))⟩
      rw [upd_same]
      have eo : outV (Sy73.step st .straight).2 = [.int (([((b0 : Int) - a0) ^ 2, ((b1 : Int) - a1) ^ 2, ((b2 : Int) - a2) ^ 2] : List Int).sum)] := by
        unfold outV Sy73Neutral.out
        show [V.int (((List.range 3).map fun (k : Nat) => ((Sy73.nth st.spider k : Int) - (Sy73.nth st.fly k : Int)) * ((Sy73.nth st.spider k : Int) - (Sy73.nth st.fly k : Int))).sum)] = _
        rw [ea, eb]
        have sq : ∀ u v : Int, (u - v) * (u - v) = (v - u) ^ 2 := fun u v => by
          rw [Int.pow_succ, Int.pow_succ, Int.pow_zero, Int.one_mul, ← Int.neg_sub u v, Int.neg_mul_neg]
        show [V.int ((((a0 : Int) - b0) * ((a0 : Int) - b0)) + ((((a1 : Int) - b1) * ((a1 : Int) - b1)) + ((((a2 : Int) - b2) * ((a2 : Int) - b2)) + 0)))] = _
        rw [sq, sq, sq]
        rfl
      rw [eo]
end
end SF

/-! ## WF -/
set_option Elab.async false
set_option maxRecDepth 100000
set_option maxHeartbeats 2000000
namespace SF
open PySem PySem.Spec PyProof.Rows L2 LamX
abbrev s_squares_from_spider : Stmt := top 49
abbrev N_squares_from_spider : List Str := ["box", "laid_rows", "found", "point", "faces", "joining", "laid"]
theorem sc_squares_from_spider : FnScope N_squares_from_spider ["box"] (C8.fnScope s_squares_from_spider) := C8.fnScope_by (by decide +kernel)
abbrev s_answer_farthest : Stmt := top 50
abbrev N_answer_farthest : List Str := ["box", "nothing", "found", "greatest", "farthest", "point", "square"]
theorem sc_answer_farthest : FnScope N_answer_farthest ["box", "nothing"] (C8.fnScope s_answer_farthest) := C8.fnScope_by (by decide +kernel)
abbrev s_answer_within : Stmt := top 51
abbrev N_answer_within : List Str := ["box", "handed", "point", "square"]
theorem sc_answer_within : FnScope N_answer_within ["box", "handed"] (C8.fnScope s_answer_within) := C8.fnScope_by (by decide +kernel)
def PtAt (H : Hp) (a : Addr) (x : List Nat × Int) : Prop := ∃ pa, H a = some (.tup [.ref pa, .int x.2]) ∧ RowAt H pa x.1
def PtsAt (H : Hp) (as : List Addr) (xs : List (List Nat × Int)) : Prop := Paired (PtAt H) as xs
theorem PtAt.same {H H' : Hp} {a : Addr} {x : List Nat × Int} (h : PtAt H a x) (s : Same H H') : PtAt H' a x := by
  obtain ⟨ra, h1, h2⟩ := h
  exact ⟨ra, s _ _ h1, h2.same s⟩
theorem PtsAt.same {H H' : Hp} {as : List Addr} {xs : List (List Nat × Int)} (h : PtsAt H as xs) (s : Same H H') : PtsAt H' as xs := Paired.mono (fun _ _ q => PtAt.same q s) h
def ptsM (st : Sy73.St) : List (List Nat × Int) := (Sy73.points st.box).map fun p => (p, Sy73.dist st.box st.spider p)
def spSquares (cB : Addr) : Sp := fun vs H Q _ => ∃ (B : Addr) (st : Sy73.St), vs = [.ref B] ∧ BxAt cB H B st ∧ StOk st ∧ ∀ (H' : Hp) (q : Addr) (as : List Addr), Same H H' → H q = none → H' q = some (.lst (refs as)) → PtsAt H' as (ptsM st) → Q (.ref q) H'
theorem mem_points {box p : List Nat} (h : p ∈ Sy73.points box) : p.length = 3 ∧ Pts box p := by
  unfold Sy73.points at h
  obtain ⟨h1, h2⟩ := List.mem_filter.mp h
  obtain ⟨x, hx, h1⟩ := List.mem_flatMap.mp h1
  obtain ⟨y, hy, h1⟩ := List.mem_flatMap.mp h1
  obtain ⟨z, hz, rfl⟩ := List.mem_map.mp h1
  have hx := List.mem_range.mp hx
  have hy := List.mem_range.mp hy
  have hz := List.mem_range.mp hz
  refine ⟨rfl, fun i hi => ?_, fun e => ?_⟩
  · match i, hi with
    | 0, _ => show x ≤ _; omega
    | 1, _ => show y ≤ _; omega
    | 2, _ => show z ≤ _; omega
  · rw [e] at h2
    cases h2
theorem points_len {box : List Nat} (hb : ∀ i, Sy73.nth box i ≤ 40) : (Sy73.points box).length ≤ 100000 := by
  rw [points_xs]
  have := xs_len hb (Sy73.nth box 0 + 1)
  have h0 := hb 0
  have := Nat.mul_le_mul_right 1681 (show Sy73.nth box 0 + 1 ≤ 41 by omega)
  omega
theorem faces_le (box p : List Nat) : (Sy73.facesOf box p).length ≤ 6 := by
  unfold Sy73.facesOf
  refine Nat.le_trans (List.length_filter_le _ _) ?_
  rw [List.length_range]
  exact Nat.le_refl _
section
variable {P : Program} {w : World} {K : Frg} {mg : Str → Option Value} {base : Heap} {cS cE cL cB : Addr} {TT : List (Addr × Str)}
theorem c_squares_from_spider (D : DefOk K mg "squares_from_spider" s_squares_from_spider ["box"]) (T : Tx K mg cS cE cL cB) (c_spider_faces : C8.Cal P w K mg base 4 "spider_faces" (spFcS cB) []) (c_laid_from : C8.Cal P w K mg base 11 "laid_from" (spFrom K cS cE cL) [])
    (c_points_on : C8.Cal P w K mg base 4 "points_on" (spPoints K) []) (c_faces_at : C8.Cal P w K mg base 3 "faces_at" (spFaces K) []) (c_shortest_square : C8.Cal P w K mg base 4 "shortest_square" (spShort K cS cE cL) []) :
    C8.Cal P w K mg base 12 "squares_from_spider" (spSquares cB) [] := by
  obtain ⟨f, fd, F, b⟩ := D.ex
  refine C8.cal0 F b .nil sc_squares_from_spider (fun vs H Q E h => ?_) (fun cdv A outer s H vs Q E hr h => ⟨_, (pss_cons (ps_set (i := 1) sc_squares_from_spider.nd rfl (Or.inl rfl) (C8.pe_c c_laid_from hr (by omega) rfl (pa_cons (pe_fld (pv 0) rfl) (pa_cons (C8.pe_c c_spider_faces hr (by omega) rfl (pa_cons (pv 0) pa_nil)) pa_nil))))
    (pss_cons (ps_set (i := 2) sc_squares_from_spider.nd rfl (Or.inl rfl) (pe_lst pa_nil))
    (pss_cons (ps_for PassesOwn.never rfl (pi_list (C8.pe_c c_points_on hr (by omega) rfl (pa_cons (pe_fld (pv 0) rfl) pa_nil))) (pg_name (i := 3) sc_squares_from_spider.nd rfl (Or.inl rfl))
      (pss_cons (ps_set (i := 4) sc_squares_from_spider.nd rfl (Or.inr rfl) (C8.pe_c c_faces_at hr (by omega) rfl (pa_cons (pe_fld (pv 0) rfl) (pa_cons (pv 3) pa_nil))))
    (pss_cons (ps_setLc (own := [("laid", 6)]) (g := (gName 6)) (i := 5)  rfl sc_squares_from_spider.nd rfl rfl (sw_true rfl rfl rfl (by decide +kernel)) (pi_list (pv 1)) (blkOk_by (own := [("laid", 6)]) (N := N_squares_from_spider) (sc := (C8.fnScope s_squares_from_spider)) (by decide +kernel)) (fun _ _ _ _ _ => pg_name (i := 6) sc_squares_from_spider.nd rfl (Or.inl rfl)) (fun _ _ _ _ _ => (pts_one (pt_cmpR (op_in_seqK K) (pe_ix (ix_listK K) (pe_fldK K (pv 6) rfl) (pe_un un_neg pe_int) (fun _ _ => rfl)) (pv 4) rfl))) (fun _ _ _ _ _ => (pv 6)))
    (pss_one (ps_expr (pe_bm PySem.F.plainAttrs_list PySem.F.slot_list_append PySem.F.type_list_append mt_append (pv 2) (pa_cons (pe_tup (pa_cons (pv 3) (pa_cons (C8.pe_c c_shortest_square hr (by omega) rfl (pa_cons (pv 5) (pa_cons (pe_fld (pv 0) rfl) (pa_cons (pv 3) pa_nil)))) pa_nil))) pa_nil)))))))
    (pss_one (ps_ret (pv 2)))))), ?_⟩)
  · obtain ⟨B, st, rfl, _⟩ := h
    rfl
  · obtain ⟨B, st, rfl, ⟨dx, l, s, f, bx⟩, ok, k⟩ := h
    have h6 : ∀ g ∈ Sy73.facesOf st.box st.spider, g < 6 := fun g hg => mem_facesOf hg
    have hl6 := faces_le st.box st.spider
    refine ⟨_, rfl, B, cB, dx, _, _, rfl, bx.at_, T.clB, T.aB.1, bx_lk1 .., _, rfl, B, st, rfl, ⟨dx, l, s, f, bx⟩, ok, fun H1 sf t1 nsf hsf => ?_⟩
    refine ⟨fun _ => False, l, sf, st.box, Sy73.facesOf st.box st.spider, old_none, rfl, SqL.of (t1 _ _ bx.l_), ok.bx, SqL.of hsf, h6, hl6, fun H2 z las t2 nz hz rows2 => ?_⟩
    have t02 := t1.trans t2
    refine ⟨Nat.zero_le _, fun R hR => ?_⟩
    have t23 := same_upd (Same.refl H2) hR (o := .lst [])
    have t03 := t02.trans t23
    have bx3 := bx.same t03
    have nR : H R = none := t02.free hR
    have zR : z ≠ R := ne_of_none hz hR
    have yR : orR (fun _ => False) R R := .inr rfl
    have oA3 : Old (orR (fun _ => False) R) (upd H2 R (.lst [])) := fun b z e => z.elim (fun z => z.elim) (fun z => by rw [z, upd_same] at e; cases e)
    have rows3 : LrsAt cS cE cL st.box (wo (upd H2 R (.lst [])) (orR (fun _ => False) R)) las (allFrom (Sy73.facesOf st.box st.spider)) := rows2.same (wo_add t23 hR)
    refine ⟨_, rfl, B, cB, dx, _, _, rfl, bx3.at_, T.clB, T.aB.1, bx_lk1 .., l, st.box, rfl, SqL.of bx3.l_, ok.bx, fun H4 pz ps t34 npz hpz pts4 => ⟨pz, rfl, ⟨_, SqL.of hpz⟩, ?_⟩⟩
    have t04 := t03.trans t34
    have hR4 : H4 R = some (.lst (refs [])) := t34 _ _ upd_same
    have pzR : pz ≠ R := fun e => by rw [e, upd_same] at npz; cases npz
    have ptsW : RowsAt (wo H4 (orR (fun _ => False) R)) ps (Sy73.points st.box) := Paired.mono (fun a r q => ⟨q.1, wo_get q.2 (fun z => z.elim (fun z => z) (fun z => row_ne q hR4 z))⟩) pts4
    refine for_list (K := K) (a := pz) (xs := refs ps) (fun j σ H' => ∃ v3 v4 v5 as, σ = [some (.ref B), some (.ref z), some (.ref R), v3, v4, v5, none] ∧ Same H H' ∧ H' z = some (.lst (refs las)) ∧ H' pz = some (.lst (refs ps)) ∧ Old (orR (fun _ => False) R) H' ∧ LrsAt cS cE cL st.box (wo H' (orR (fun _ => False) R)) las (allFrom (Sy73.facesOf st.box st.spider)) ∧
        RowsAt (wo H' (orR (fun _ => False) R)) ps (Sy73.points st.box) ∧ H' R = some (.lst (refs as)) ∧ PtsAt (wo H' (orR (fun _ => False) R)) as ((ptsM st).take j))
      ⟨none, none, none, [], rfl, t04, t34 _ _ (t23 _ _ hz), hpz, oA3.same t34, rows3.same (wo_same _ t34), ptsW, hR4, .nil⟩ (fun j σ H' _ h => by obtain ⟨_, _, _, _, _, _, _, h, _⟩ := h; exact SqL.of h) ?_ ?_
    · rintro j v σ H5 hj ⟨v3, v4, v5, as, rfl, t5, hz5, hpz5, oA5, rows5, pts5, hR5, inv5⟩
      obtain ⟨x, hx, rfl⟩ := refs_at hj
      obtain ⟨p, hp, px⟩ := paired_at pts5 hx
      have pxH : H5 x = some (.lst (p.map nv)) := wo_le _ _ _ _ px.2
      obtain ⟨p3, pP⟩ := mem_points (List.mem_of_getElem? hp)
      have pP3 := p3_of ok.b40 p3 pP.le
      have bx5 := bx.same t5
      refine ⟨_, rfl, B, cB, dx, _, _, rfl, bx5.at_, T.clB, T.aB.1, bx_lk1 .., _, rfl, l, x, st.box, p, rfl, SqL.of bx5.l_, SqL.of pxH, ok.b3, p3, fun H6 fa t56 nfa hfa => ?_⟩
      rw [facesM_in pP.le] at hfa
      have t06 := t5.trans t56
      have rows6 := rows5.same (wo_same _ t56)
      have hz6 := t56 _ _ hz5
      refine ⟨_, rfl, z, rfl, ⟨_, SqL.of hz6⟩, fun D hD => ?_⟩
      have t67 := same_upd (Same.refl H6) hD (o := .lst [])
      refine lc_list (K := K) (a := z) (xs := refs las) (fun i H' => ∃ js, Same H6 H' ∧ H' D = some (.lst (refs js)) ∧ LrsAt cS cE cL st.box (wo H6 (orR (fun _ => False) R)) js (((allFrom (Sy73.facesOf st.box st.spider)).take i).filter (lastIn (Sy73.facesOf st.box p))))
        ⟨[], t67, upd_same, .nil⟩ (fun i H' _ h => by obtain ⟨_, h, _⟩ := h; exact SqL.of (h _ _ hz6)) ?_ ?_
      · rintro i v H7 hi ⟨js, t7, hD7, inv7⟩
        obtain ⟨y, hy, rfl⟩ := refs_at hi
        obtain ⟨r, hr', lr⟩ := paired_at rows6 hy
        obtain ⟨dl, ra, z0, z1, L, es, LW⟩ := id lr
        have LI := (LW.same (wo_le _ _)).same t7
        obtain ⟨e, he, _⟩ := rowOk_last LI.ok
        have et := take_snoc hr'
        refine ⟨rfl, _, rfl, y, cL, dl, _, _, rfl, LI.at_, T.clL, T.aL.1, lr_lk1 .., _, rfl, _, _, _, _, rfl, rfl, SqL.of LI.row_, at_last he, _, rfl, fa, _, rfl, .inl (SqL.of (t7 _ _ hfa)), rfl, flat_nv _, _, rfl, ?_⟩
        have e1 : (if false = true then !inV (nv e) ((Sy73.facesOf st.box p).map nv) else inV (nv e) ((Sy73.facesOf st.box p).map nv)) = lastIn (Sy73.facesOf st.box p) r := by
          rw [if_neg Bool.false_ne_true, inV_nv]
          unfold lastIn
          rw [he]
          rfl
        rw [e1]
        refine ite2 (fun c => ?_) (fun c => ?_)
        · refine ⟨_, rfl, refs js, hD7, ?_, js ++ [y], same_upd t7 hD, by rw [upd_same, refs_snoc], ?_⟩
          · have l1 := inv7.length
            have l2 := List.length_filter_le (lastIn (Sy73.facesOf st.box p)) ((allFrom (Sy73.facesOf st.box st.spider)).take i)
            have l3 := all_len (Sy73.facesOf st.box st.spider)
            have l4 := Nat.mul_le_mul_right (7 ^ 5) hl6
            rw [List.length_take] at l2
            rw [refs_len]
            exact Nat.lt_of_le_of_lt (show js.length ≤ 6 * 7 ^ 5 by omega) (by decide)
          · rw [et, List.filter_append]
            have e2 : [r].filter (lastIn (Sy73.facesOf st.box p)) = [r] := by
              rw [List.filter_cons_of_pos c]
              rfl
            rw [e2]
            exact paired_app inv7 (.cons lr .nil)
        · refine ⟨js, t7, hD7, ?_⟩
          rw [et, List.filter_append]
          have e2 : [r].filter (lastIn (Sy73.facesOf st.box p)) = [] := by
            rw [List.filter_cons_of_neg c]
            rfl
          rw [e2, List.append_nil]
          exact inv7
      · rintro H7 ⟨js, t7, hD7, inv7⟩
        have el : (refs las).length = (allFrom (Sy73.facesOf st.box st.spider)).length := by rw [refs_len, rows6.length]
        rw [el, List.take_length, ← join_all] at inv7
        have t57 := t56.trans t7
        have t07 := t5.trans t57
        have bx7 := bx.same t07
        have LR : LrsAt cS cE cL st.box H7 js (joinM (Sy73.facesOf st.box st.spider) (Sy73.facesOf st.box p)) := (inv7.same (wo_le _ _)).same t7
        refine ⟨_, rfl, .inl ⟨rfl, _, SqL.of (t57 _ _ hR5)⟩, _, rfl, _, rfl, _, rfl, B, cB, dx, _, _, rfl, bx7.at_, T.clB, T.aB.2.1, bx_lk2 .., _, rfl, D, s, x, js, _, st.box, st.spider, p, rfl, hD7, LR, ok.bx, SqL.of bx7.s_, ok.sP, SqL.of (t57 _ _ pxH), pP3, fun H8 t78 => ?_⟩
        rw [dist_eq (fun i hi => ok.b1 i hi) ok.sp pP]
        refine ⟨fits (m := 2) (Nat.le_refl _), fun t ht => ?_⟩
        have t58 := t57.trans t78
        have hR8 := t58 _ _ hR5
        have tR : R ≠ t := ne_of_none hR8 ht
        have t89 := same_upd (Same.refl H8) ht (o := .tup [.ref x, optV (some (Sy73.dist st.box st.spider p))])
        have t59 := t58.trans t89
        refine ⟨R, refs as, .ref t, rfl, rfl, t59 _ _ hR5, ?_, ?_⟩
        · have l1 := inv5.length
          have l2 := points_len ok.b40
          have l3 : ((ptsM st).take j).length ≤ 100000 := by
            rw [List.length_take]
            unfold ptsM
            rw [List.length_map]
            omega
          rw [refs_len]
          exact Nat.lt_of_le_of_lt (show as.length ≤ 100000 by omega) (by decide)
        · have hpt : (ptsM st)[j]? = some (p, Sy73.dist st.box st.spider p) := by
            unfold ptsM
            rw [List.getElem?_map, hp]
            rfl
          refine ⟨_, _, _, as ++ [t], rfl, same_upd (t5.trans t59) nR, ?_, ?_, (oA5.same t59).upd, ?_, ?_, ?_, ?_⟩
          · rw [upd_ne zR]
            exact t59 _ _ hz5
          · rw [upd_ne pzR]
            exact t59 _ _ hpz5
          · rw [wo_upd yR]
            exact rows5.same (wo_same _ t59)
          · rw [wo_upd yR]
            exact pts5.same (wo_same _ t59)
          · rw [upd_same, refs_snoc]
          · rw [wo_upd yR, take_snoc hpt]
            exact paired_app (inv5.same (wo_same _ t59)) (.cons ⟨x, wo_get upd_same (fun z => z.elim (fun z => z) (fun z => tR z.symm)), px.same (wo_same _ t59)⟩ .nil)
    · rintro σ H5 ⟨v3, v4, v5, as, rfl, t5, hz5, hpz5, oA5, rows5, pts5, hR5, inv5⟩
      have el : (refs ps).length = (ptsM st).length := by
        rw [refs_len, pts5.length]
        unfold ptsM
        rw [List.length_map]
      rw [el, List.take_length] at inv5
      exact ⟨_, rfl, k _ _ as t5 nR hR5 (inv5.same (wo_le _ _))⟩
end
end SF

/-! ## WG -/
set_option Elab.async false
set_option maxRecDepth 100000
set_option maxHeartbeats 2000000
namespace SF
open PySem PySem.Spec PyProof.Rows L2 LamX
section
variable {P : Program} {w : World} {K : Frg} {mg : Str → Option Value} {base : Heap} {cS cE cL cB : Addr} {TT : List (Addr × Str)}
theorem pts_mem {st : Sy73.St} {x : List Nat × Int} (h : x ∈ ptsM st) : ∃ p, p ∈ Sy73.points st.box ∧ x = (p, Sy73.dist st.box st.spider p) := by
  unfold ptsM at h
  obtain ⟨p, hp, e⟩ := List.mem_map.mp h
  exact ⟨p, hp, e.symm⟩
theorem pts_far (st : Sy73.St) (g : Int) : ((ptsM st).filter fun x => decide (x.2 = g)).map (·.1) = (Sy73.points st.box).filter fun p => decide (Sy73.dist st.box st.spider p = g) := by
  unfold ptsM
  rw [List.filter_map, List.map_map]
  have : ((fun x : List Nat × Int => x.1) ∘ fun p => (p, Sy73.dist st.box st.spider p)) = id := rfl
  rw [this, List.map_id]
  rfl
theorem pts_near (st : Sy73.St) (n : Int) : ((ptsM st).filter fun x => decide (x.2 ≤ n)).length = ((Sy73.points st.box).filter fun p => decide (Sy73.dist st.box st.spider p ≤ n)).length := by
  unfold ptsM
  rw [List.filter_map, List.length_map]
  rfl
theorem points_ne {st : Sy73.St} (ok : StOk st) : Sy73.points st.box ≠ [] := by
  intro e
  obtain ⟨x, y, z, es⟩ := take3 st.spider ok.s3
  have hin := ok.sp.le
  have hm : st.spider ∈ Sy73.points st.box := by
    unfold Sy73.points
    refine List.mem_filter.mpr ⟨?_, ?_⟩
    · rw [es] at hin ⊢
      have h0 : x ≤ Sy73.nth st.box 0 := hin 0 (by decide)
      have h1 : y ≤ Sy73.nth st.box 1 := hin 1 (by decide)
      have h2 : z ≤ Sy73.nth st.box 2 := hin 2 (by decide)
      exact List.mem_flatMap.mpr ⟨x, List.mem_range.mpr (by omega), List.mem_flatMap.mpr ⟨y, List.mem_range.mpr (by omega), List.mem_map.mpr ⟨z, List.mem_range.mpr (by omega), rfl⟩⟩⟩
    · have := ok.sp.on
      cases e2 : Sy73.facesOf st.box st.spider with
      | nil => exact absurd e2 this
      | cons => rfl
  rw [e] at hm
  cases hm
theorem c_answer_farthest (D : DefOk K mg "answer_farthest" s_answer_farthest ["box", "nothing"]) (T : Tx K mg cS cE cL cB) (c_may_be_searched : C8.Cal P w K mg base 1 "may_be_searched" (spSmall cB) []) (c_squares_from_spider : C8.Cal P w K mg base 12 "squares_from_spider" (spSquares cB) [])
    (c_told_list : C8.Cal P w K mg base 1 "told_list" (spTold K) []) : C8.Cal P w K mg base 13 "answer_farthest" (AnsSp TT cB (fun c hs => c = .farthest)) [] := by
  obtain ⟨f, fd, F, b⟩ := D.ex
  refine C8.cal0 F b .nil sc_answer_farthest (fun vs H Q E h => ?_) (fun cdv A outer s H vs Q E hr h => ⟨_, (pss_cons (ps_if (pt_not (pt_val (C8.pe_c c_may_be_searched hr (by omega) rfl (pa_cons (pv 0) pa_nil))))
      (pss_one (ps_ret (pe_lst (pa_cons (pe_un un_neg pe_int) pa_nil))))
      pss_nil)
    (pss_cons (ps_set (i := 2) sc_answer_farthest.nd rfl (Or.inl rfl) (C8.pe_c c_squares_from_spider hr (by omega) rfl (pa_cons (pv 0) pa_nil)))
    (pss_cons (ps_set (i := 3) sc_answer_farthest.nd rfl (Or.inr rfl) (pe_callB (cr_max rfl) (by rfl) T.n_max (by decide +kernel) (pa_cons (pe_lc (own := [("point", 5), ("square", 6)]) (g := (gTup K 2 (gCons (gName 5) (gCons (gName 6) gNil)))) rfl sc_answer_farthest.nd (pi_list (pv 2)) (blkOk_by (own := [("point", 5), ("square", 6)]) (N := N_answer_farthest) (sc := (C8.fnScope s_answer_farthest)) (by decide +kernel)) (fun _ _ _ _ _ => pg_tupK K rfl (pgs_cons (pg_name (i := 5) sc_answer_farthest.nd rfl (Or.inl rfl)) (pgs_cons (pg_name (i := 6) sc_answer_farthest.nd rfl (Or.inl rfl)) pgs_nil))) (fun _ _ _ _ _ => pts_nil) (fun _ _ _ _ _ => (pv 6))) pa_nil)))
    (pss_cons (ps_setLc (own := [("point", 5), ("square", 6)]) (g := (gTup K 2 (gCons (gName 5) (gCons (gName 6) gNil)))) (i := 4)  rfl sc_answer_farthest.nd rfl rfl (sw_true rfl rfl rfl (by decide +kernel)) (pi_list (pv 2)) (blkOk_by (own := [("point", 5), ("square", 6)]) (N := N_answer_farthest) (sc := (C8.fnScope s_answer_farthest)) (by decide +kernel)) (fun _ _ _ _ _ => pg_tupK K rfl (pgs_cons (pg_name (i := 5) sc_answer_farthest.nd rfl (Or.inl rfl)) (pgs_cons (pg_name (i := 6) sc_answer_farthest.nd rfl (Or.inl rfl)) pgs_nil))) (fun _ _ _ _ _ => (pts_one (pt_cmpR op_eq (pv 6) (pv 3) (nomark _)))) (fun _ _ _ _ _ => (pv 5)))
    (pss_one (ps_ret (pe_op op_cat (pe_op op_cat (pe_lst (pa_cons (pv 3) pa_nil)) (C8.pe_c c_told_list hr (by omega) rfl (pa_cons (pe_ix ix_list (pv 4) pe_int (fun _ _ => rfl)) pa_nil))) (C8.pe_c c_told_list hr (by omega) rfl (pa_cons (pe_lst (pa_cons (pe_callB call_len_seq (by rfl) T.n_len PySem.boot_len (pa_cons (pv 4) pa_nil)) pa_nil)) pa_nil))))))))), ?_⟩)
  · obtain ⟨B, h, st, c, hs, rfl, _⟩ := h
    rfl
  · obtain ⟨B, h, st, c, hs, rfl, bx, ok, hH, rfl, tb, k⟩ := h
    refine ⟨_, rfl, B, st, rfl, bx, ok, _, rfl, ?_⟩
    refine ite2 (fun c => ?_) (fun c => ?_)
    · have c : Sy73.small st.box = false := by simpa using c
      have es : Sy73.step st .farthest = (st, Sy73.ok (-9)) := by
        show (st, if Sy73.small st.box = false then Sy73.ok (-9) else _) = _
        rw [if_pos c]
      rw [es] at k
      exact ⟨_, rfl, fits (m := 1) (Nat.le_refl _), fun q hq => k _ q (kq_same tb (same_upd (Same.refl _) hq)) hq upd_same (bx.same (same_upd (Same.refl _) hq))⟩
    · have c : ¬ Sy73.small st.box = false := by simpa using c
      refine ⟨_, rfl, B, st, rfl, bx, ok, fun H1 z as t1 nz hz pts1 => ?_⟩
      have pl : (ptsM st).length ≤ 100000 := by
        unfold ptsM
        rw [List.length_map]
        exact points_len ok.b40
      have pne : ptsM st ≠ [] := by
        intro e
        unfold ptsM at e
        exact points_ne ok (List.map_eq_nil_iff.mp e)
      have el : (refs as).length = (ptsM st).length := by rw [refs_len, pts1.length]
      have dn : ∀ p ∈ Sy73.points st.box, 0 ≤ Sy73.dist st.box st.spider p := fun p hp => dist_nonneg (fun i hi => ok.b1 i hi) ok.sp (mem_points hp).2
      refine ⟨_, rfl, z, rfl, ⟨_, SqL.of hz⟩, fun D hD => ?_⟩
      have t12 := same_upd (Same.refl H1) hD (o := .lst [])
      refine lc_list (K := K) (a := z) (xs := refs as) (fun i H' => Same H1 H' ∧ H' D = some (.lst ((((ptsM st).take i).map (·.2)).map V.int))) ⟨t12, upd_same⟩ (fun i H' _ h => SqL.of (h.1 _ _ hz)) ?_ ?_
      · rintro i v H2 hi ⟨t2, hD2⟩
        obtain ⟨x, hx, rfl⟩ := refs_at hi
        obtain ⟨y, hy, pa, hpa, _⟩ := paired_at pts1 hx
        refine ⟨x, _, rfl, SqT.of (t2 _ _ hpa), rfl, _, _, rfl, _, _, rfl, rfl, rfl, _, rfl, _, hD2, ?_, same_upd t2 hD, ?_⟩
        · rw [List.length_map, List.length_map, List.length_take]
          exact Nat.lt_of_le_of_lt (show min i (ptsM st).length ≤ 100000 by omega) (by decide)
        · rw [upd_same, take_snoc hy, List.map_append, List.map_append]
          rfl
      · rintro H2 ⟨t2, hD2⟩
        rw [el, List.take_length] at hD2
        refine ⟨D, _, rfl, SqL.of hD2, ?_, fun g hg hle => ?_⟩
        · rw [List.length_map]
          exact List.length_pos_iff.mpr pne
        obtain ⟨y0, hy0, eg⟩ := List.mem_map.mp hg
        obtain ⟨p0, hp0, ey0⟩ := pts_mem hy0
        have hgl : ∀ p ∈ Sy73.points st.box, Sy73.dist st.box st.spider p ≤ g := fun p hp => hle _ (List.mem_map.mpr ⟨(p, Sy73.dist st.box st.spider p), List.mem_map.mpr ⟨p, hp, rfl⟩, rfl⟩)
        obtain ⟨a0, r0, ef, efar⟩ := far_is (f := Sy73.dist st.box st.spider) dn (points_ne ok) (g := g) ⟨p0, hp0, by rw [← eg, ey0]⟩ hgl
        have hz2 := t2 _ _ hz
        refine ⟨_, rfl, z, rfl, ⟨_, SqL.of hz2⟩, fun D2 hD2' => ?_⟩
        have t23 := same_upd (Same.refl H2) hD2' (o := .lst [])
        refine lc_list (K := K) (a := z) (xs := refs as) (fun i H' => ∃ js, Same H2 H' ∧ H' D2 = some (.lst (refs js)) ∧ RowsAt H2 js ((((ptsM st).take i).filter fun x => decide (x.2 = g)).map (·.1))) ⟨[], t23, upd_same, .nil⟩ (fun i H' _ h => by obtain ⟨_, h, _⟩ := h; exact SqL.of (h _ _ hz2)) ?_ ?_
        · rintro i v H3 hi ⟨js, t3, hD3, inv3⟩
          obtain ⟨x, hx, rfl⟩ := refs_at hi
          obtain ⟨y, hy, pa, hpa, hrow⟩ := paired_at pts1 hx
          refine ⟨x, _, rfl, SqT.of ((t2.trans t3) _ _ hpa), rfl, _, _, rfl, _, _, rfl, rfl, rfl, _, rfl, _, rfl, rfl, _, rfl, ?_⟩
          have ed : decide (V.int y.2 = V.int g) = decide (y.2 = g) := by
            rw [Bool.eq_iff_iff, decide_eq_true_eq, decide_eq_true_eq]
            exact ⟨V.int.inj, fun z => by rw [z]⟩
          rw [ed]
          have et := take_snoc hy
          refine ite2 (fun c => ?_) (fun c => ?_)
          · refine ⟨_, rfl, refs js, hD3, ?_, js ++ [pa], same_upd t3 hD2', by rw [upd_same, refs_snoc], ?_⟩
            · have l1 := inv3.length
              have l2 := List.length_filter_le (fun x : List Nat × Int => decide (x.2 = g)) ((ptsM st).take i)
              rw [List.length_take] at l2
              rw [List.length_map] at l1
              rw [refs_len]
              exact Nat.lt_of_le_of_lt (show js.length ≤ 100000 by omega) (by decide)
            · rw [et, List.filter_append, List.map_append]
              have e2 : [y].filter (fun x : List Nat × Int => decide (x.2 = g)) = [y] := List.filter_cons_of_pos c
              rw [e2]
              exact paired_app inv3 (.cons (hrow.same t2) .nil)
          · refine ⟨js, t3, hD3, ?_⟩
            rw [et, List.filter_append]
            have e2 : [y].filter (fun x : List Nat × Int => decide (x.2 = g)) = [] := List.filter_cons_of_neg c
            rw [e2, List.append_nil]
            exact inv3
        · rintro H3 ⟨js, t3, hD3, inv3⟩
          rw [el, List.take_length, pts_far, ef] at inv3
          have es : Sy73.step st .farthest = (st, ⟨g, [Sy73.ints a0, [((r0.length + 1 : Nat) : Int)]]⟩) := by
            show (st, if Sy73.small st.box = false then Sy73.ok (-9) else (⟨(Sy73.farthest st.box st.spider).2.1, [Sy73.ints (Sy73.farthest st.box st.spider).1, [((Sy73.farthest st.box st.spider).2.2 : Int)]]⟩ : Sy73.Ans)) = _
            have : Sy73.farthest st.box st.spider = (a0, g, r0.length + 1) := efar
            rw [if_neg c, this]
          rw [es] at k
          have ha3 : a0.length = 3 := by
            have : a0 ∈ a0 :: r0 := .head _
            rw [← ef] at this
            exact (mem_points (List.mem_filter.mp this).1).1
          have jl0 := inv3.length
          cases js with
          | nil => cases inv3
          | cons ja js =>
           cases inv3 with
           | cons hja _ =>
            have jl : ((ja :: js).length) = r0.length + 1 := jl0
            have at0 : atI (refs (ja :: js)) 0 = some (V.ref ja) := atI_nat (j := 0) rfl
            have t03 := t1.trans (t2.trans t3)
            refine ⟨_, rfl, fits (m := 1) (Nat.le_refl _), fun p4 hp4 => ?_⟩
            have t4 := same_upd (Same.refl H3) hp4 (o := .lst [.int g])
            refine ⟨_, rfl, _, _, _, _, rfl, rfl, SqL.of (t4 _ _ hD3), at0, ja, _, rfl, t4 _ _ (t3 _ _ hja.2), by rw [List.length_map, ha3]; decide, fun H5 q5 t5 nq5 hq5 => ?_⟩
            refine ⟨p4, q5, _, _, rfl, rfl, t5 _ _ upd_same, hq5, fits (m := 8) ?_, fun p6 hp6 => ?_⟩
            · simp only [List.length_cons, List.length_map, List.length_nil, ha3]
              decide
            have t35 := t4.trans t5
            have t6 := same_upd t35 (t35.free hp6) (o := .lst ([.int g] ++ .int ((a0.map nv).length : Nat) :: a0.map nv))
            refine ⟨_, rfl, D2, _, rfl, .inl (SqL.of (t6 _ _ hD3)), fits (m := 1) (Nat.le_refl _), fun p7 hp7 => ?_⟩
            have t7 := same_upd t6 (t6.free hp7) (o := .lst [.int ((refs (ja :: js)).length : Nat)])
            refine ⟨p7, _, rfl, upd_same, (by show 1 ≤ 1000; decide), fun H8 q8 t8 nq8 hq8 => ?_⟩
            refine ⟨p6, q8, _, _, rfl, rfl, t8 _ _ (by rw [upd_ne (ne_of_none upd_same hp7)]; exact upd_same), hq8, fits (m := 8) ?_, fun p9 hp9 => ?_⟩
            · simp only [List.length_cons, List.length_map, List.length_nil, List.length_append, ha3]
              decide
            have t08 := t03.trans (t7.trans t8)
            refine k _ p9 (kq_same tb (same_upd t08 (t08.free hp9))) (t08.free hp9) ?_ (bx.same (same_upd t08 (t08.free hp9)))
            rw [upd_same, refs_len, jl]
            have eo : outV (⟨g, [Sy73.ints a0, [((r0.length + 1 : Nat) : Int)]]⟩ : Sy73.Ans) = ([.int g] ++ .int ((a0.map nv).length : Nat) :: a0.map nv) ++ .int (([V.int ((r0.length + 1 : Nat) : Int)] : List V).length : Nat) :: [V.int ((r0.length + 1 : Nat) : Int)] := by
              unfold outV Sy73Neutral.out
              show List.map V.int (g :: ([Sy73.ints a0, [((r0.length + 1 : Nat) : Int)]].flatMap fun (w : List Int) => (w.length : Int) :: w)) = _
              simp [Sy73.ints]
              exact fun _ _ => rfl
            rw [eo]
theorem c_answer_within (D : DefOk K mg "answer_within" s_answer_within ["box", "handed"]) (T : Tx K mg cS cE cL cB) (c_may_be_searched : C8.Cal P w K mg base 1 "may_be_searched" (spSmall cB) []) (c_squares_from_spider : C8.Cal P w K mg base 12 "squares_from_spider" (spSquares cB) []) :
    C8.Cal P w K mg base 13 "answer_within" (AnsSp TT cB (fun c hs => ∃ n, c = .within n ∧ hs = [n])) [] := by
  obtain ⟨f, fd, F, b⟩ := D.ex
  refine C8.cal0 F b .nil sc_answer_within (fun vs H Q E h => ?_) (fun cdv A outer s H vs Q E hr h => ⟨_, (pss_cons (ps_if (pt_not (pt_val (C8.pe_c c_may_be_searched hr (by omega) rfl (pa_cons (pv 0) pa_nil))))
      (pss_one (ps_ret (pe_lst (pa_cons (pe_un un_neg pe_int) pa_nil))))
      pss_nil)
    (pss_one (ps_ret (pe_lst (pa_cons (pe_callB call_len_seq (by rfl) T.n_len PySem.boot_len (pa_cons (pe_lc (own := [("point", 2), ("square", 3)]) (g := (gTup K 2 (gCons (gName 2) (gCons (gName 3) gNil)))) rfl sc_answer_within.nd (pi_list (C8.pe_c c_squares_from_spider hr (by omega) rfl (pa_cons (pv 0) pa_nil))) (blkOk_by (own := [("point", 2), ("square", 3)]) (N := N_answer_within) (sc := (C8.fnScope s_answer_within)) (by decide +kernel)) (fun _ _ _ _ _ => pg_tupK K rfl (pgs_cons (pg_name (i := 2) sc_answer_within.nd rfl (Or.inl rfl)) (pgs_cons (pg_name (i := 3) sc_answer_within.nd rfl (Or.inl rfl)) pgs_nil))) (fun _ _ _ _ _ => (pts_one (pt_cmpR op_le (pv 3) (pe_ix (ix_listK K) (pv 1) pe_int (fun _ _ => rfl)) (nomark _)))) (fun _ _ _ _ _ => (pv 3))) pa_nil)) pa_nil))))), ?_⟩)
  · obtain ⟨B, h, st, c, hs, rfl, _⟩ := h
    rfl
  · obtain ⟨B, h, st, c, hs, rfl, bx, ok, hH, ⟨n, rfl, rfl⟩, tb, k⟩ := h
    refine ⟨_, rfl, B, st, rfl, bx, ok, _, rfl, ?_⟩
    refine ite2 (fun c => ?_) (fun c => ?_)
    · have c : Sy73.small st.box = false := by simpa using c
      have es : Sy73.step st (.within n) = (st, Sy73.ok (-9)) := by
        show (st, if Sy73.small st.box = false then Sy73.ok (-9) else _) = _
        rw [if_pos c]
      rw [es] at k
      exact ⟨_, rfl, fits (m := 1) (Nat.le_refl _), fun q hq => k _ q (kq_same tb (same_upd (Same.refl _) hq)) hq upd_same (bx.same (same_upd (Same.refl _) hq))⟩
    · have c : ¬ Sy73.small st.box = false := by simpa using c
      have es : Sy73.step st (.within n) = (st, Sy73.ok (((Sy73.points st.box).filter fun q => decide (Sy73.dist st.box st.spider q ≤ (n : Int))).length : Nat)) := by
        show (st, if Sy73.small st.box = false then Sy73.ok (-9) else _) = _
        rw [if_neg c]
      rw [es] at k
      refine ⟨_, rfl, B, st, rfl, bx, ok, fun H1 z as t1 nz hz pts1 => ?_⟩
      have pl : (ptsM st).length ≤ 100000 := by
        unfold ptsM
        rw [List.length_map]
        exact points_len ok.b40
      have el : (refs as).length = (ptsM st).length := by rw [refs_len, pts1.length]
      refine ⟨z, rfl, ⟨_, SqL.of hz⟩, fun D hD => ?_⟩
      have t12 := same_upd (Same.refl H1) hD (o := .lst [])
      refine lc_list (K := K) (a := z) (xs := refs as) (fun i H' => Same H1 H' ∧ H' D = some (.lst (((((ptsM st).take i).filter fun x => decide (x.2 ≤ (n : Int))).map (·.2)).map V.int))) ⟨t12, upd_same⟩ (fun i H' _ h => SqL.of (h.1 _ _ hz)) ?_ ?_
      · rintro i v H2 hi ⟨t2, hD2⟩
        obtain ⟨x, hx, rfl⟩ := refs_at hi
        obtain ⟨y, hy, pa, hpa, _⟩ := paired_at pts1 hx
        have et := take_snoc hy
        refine ⟨x, _, rfl, SqT.of (t2 _ _ hpa), rfl, _, _, rfl, _, _, rfl, rfl, rfl, _, rfl, _, rfl, _, _, _, _, rfl, rfl, SqL.of ((t1.trans t2) _ _ hH), at_nv (l := [n]) (i := 0) (by show 0 < 1; decide), _, _, rfl, rfl, _, rfl, ?_⟩
        have en : (([n].getD 0 0 : Nat) : Int) = (n : Int) := rfl
        rw [en]
        refine ite2 (fun c => ?_) (fun c => ?_)
        · refine ⟨_, rfl, _, hD2, ?_, same_upd t2 hD, ?_⟩
          · have l2 := List.length_filter_le (fun x : List Nat × Int => decide (x.2 ≤ (n : Int))) ((ptsM st).take i)
            rw [List.length_take] at l2
            rw [List.length_map, List.length_map]
            exact Nat.lt_of_le_of_lt (show (((ptsM st).take i).filter fun x => decide (x.2 ≤ (n : Int))).length ≤ 100000 by omega) (by decide)
          · rw [upd_same, et, List.filter_append]
            have e2 : [y].filter (fun x : List Nat × Int => decide (x.2 ≤ (n : Int))) = [y] := List.filter_cons_of_pos c
            rw [e2, List.map_append, List.map_append]
            rfl
        · refine ⟨t2, ?_⟩
          rw [hD2, et, List.filter_append]
          have e2 : [y].filter (fun x : List Nat × Int => decide (x.2 ≤ (n : Int))) = [] := List.filter_cons_of_neg c
          rw [e2, List.append_nil]
      · rintro H2 ⟨t2, hD2⟩
        rw [el, List.take_length] at hD2
        have t02 := t1.trans t2
        refine ⟨D, _, rfl, .inl (SqL.of hD2), fits (m := 1) (Nat.le_refl _), fun q hq => ?_⟩
        refine k _ q (kq_same tb (same_upd t02 (t02.free hq))) (t02.free hq) ?_ (bx.same (same_upd t02 (t02.free hq)))
        rw [upd_same, List.length_map, List.length_map, pts_near]
        rfl
end
end SF

/-! ## WH -/
set_option Elab.async false
set_option maxRecDepth 100000
set_option maxHeartbeats 2000000
namespace SF
open PySem PySem.Spec PyProof.Rows L2 LamX
abbrev s_numbers_from : Stmt := top 55
abbrev N_numbers_from : List Str := ["calls", "place"]
theorem sc_numbers_from : FnScope N_numbers_from ["calls", "place"] (C8.fnScope s_numbers_from) := C8.fnScope_by (by decide +kernel)
abbrev s_call_end : Stmt := top 56
abbrev N_call_end : List Str := ["calls", "place"]
theorem sc_call_end : FnScope N_call_end ["calls", "place"] (C8.fnScope s_call_end) := C8.fnScope_by (by decide +kernel)
theorem ways_len6 (box p q : List Nat) : (waysM box p q).length ≤ 6 * 7 ^ 5 := by
  rw [waysM_all]
  have l1 := List.length_filterMap_le (way1 box p q (Sy73.facesOf box q)) (allFrom (Sy73.facesOf box p))
  have l2 := all_len (Sy73.facesOf box p)
  have l3 := Nat.mul_le_mul_right (7 ^ 5) (faces_le box p)
  omega
section
variable {P : Program} {w : World} {K : Frg} {mg : Str → Option Value} {base : Heap} {cS cE cL cB : Addr} {TT : List (Addr × Str)}
theorem c_answer_many (D : DefOk K mg "answer_many" s_answer_many ["box", "nothing"]) (T : Tx K mg cS cE cL cB) (c_straight_ways : C8.Cal P w K mg base 12 "straight_ways" (spWays cB) []) (c_told_list : C8.Cal P w K mg base 1 "told_list" (spTold K) []) :
    C8.Cal P w K mg base 13 "answer_many" (AnsSp TT cB (fun c hs => c = .many)) [] := by
  obtain ⟨f, fd, F, b⟩ := D.ex
  refine C8.cal0 F b .nil sc_answer_many (fun vs H Q E h => ?_) (fun cdv A outer s H vs Q E hr h => ⟨_, (pss_cons (ps_setLc (own := [("square", 3), ("row", 4)]) (g := (gTup K 2 (gCons (gName 3) (gCons (gName 4) gNil)))) (i := 2)  rfl sc_answer_many.nd rfl rfl (sw_true rfl rfl rfl (by decide +kernel)) (pi_list (C8.pe_c c_straight_ways hr (by omega) rfl (pa_cons (pv 0) pa_nil))) (blkOk_by (own := [("square", 3), ("row", 4)]) (N := N_answer_many) (sc := (C8.fnScope s_answer_many)) (by decide +kernel)) (fun _ _ _ _ _ => pg_tupK K rfl (pgs_cons (pg_name (i := 3) sc_answer_many.nd rfl (Or.inl rfl)) (pgs_cons (pg_name (i := 4) sc_answer_many.nd rfl (Or.inl rfl)) pgs_nil))) (fun _ _ _ _ _ => pts_nil) (fun _ _ _ _ _ => (pv 3)))
    (pss_one (ps_ret (pe_op op_cat (pe_lst (pa_cons (pe_callB call_len_seq (by rfl) T.n_len PySem.boot_len (pa_cons (pv 2) pa_nil)) pa_nil)) (C8.pe_c c_told_list hr (by omega) rfl (pa_cons (pe_lst (pa_cons (pe_bm PySem.F.plainAttrs_list PySem.F.slot_list_count PySem.F.type_list_count mt_lcount (pv 2) (pa_cons (pe_callB (cr_min rfl) (by rfl) T.n_min (by decide +kernel) (pa_cons (pv 2) pa_nil)) pa_nil)) pa_nil)) pa_nil)))))), ?_⟩)
  · obtain ⟨B, h, st, c, hs, rfl, _⟩ := h
    rfl
  · obtain ⟨B, h, st, c, hs, rfl, bx, ok, hH, rfl, tb, k⟩ := h
    have hb1 : ∀ i, i < 3 → 0 < Sy73.nth st.box i := fun i hi => ok.b1 i hi
    refine ⟨_, rfl, B, st, rfl, bx, ok, fun H1 z as t1 nz hz ws => ⟨z, rfl, ⟨_, SqL.of hz⟩, fun D hD => ?_⟩⟩
    have t12 := same_upd (Same.refl H1) hD (o := .lst [])
    have el : (refs as).length = (waysM st.box st.spider st.fly).length := by rw [refs_len, ws.length]
    have l6 := ways_len6 st.box st.spider st.fly
    refine lc_list (K := K) (a := z) (xs := refs as) (fun i H' => Same H1 H' ∧ H' D = some (.lst ((((waysM st.box st.spider st.fly).take i).map (·.1)).map V.int))) ⟨t12, upd_same⟩ (fun i H' _ h => SqL.of (h.1 _ _ hz)) ?_ ?_
    · rintro i v H2 hi ⟨t2, hD2⟩
      obtain ⟨x, hx, rfl⟩ := refs_at hi
      obtain ⟨y, hy, ra, hra, _⟩ := paired_at ws hx
      refine ⟨x, _, rfl, SqT.of (t2 _ _ hra), rfl, _, _, rfl, _, _, rfl, rfl, rfl, _, rfl, _, hD2, ?_, same_upd t2 hD, ?_⟩
      · rw [List.length_map, List.length_map, List.length_take]
        exact Nat.lt_of_le_of_lt (show min i (waysM st.box st.spider st.fly).length ≤ 6 * 7 ^ 5 by omega) (by decide)
      · rw [upd_same, take_snoc hy, List.map_append, List.map_append]
        rfl
    · rintro H2 ⟨t2, hD2⟩
      rw [el, List.take_length] at hD2
      have wne : waysM st.box st.spider st.fly ≠ [] := ways_some ok.sp.le ok.fp.le ok.sp.on ok.fp.on
      refine ⟨_, rfl, D, _, rfl, .inl (SqL.of hD2), fits (m := 1) (Nat.le_refl _), fun p3 hp3 => ?_⟩
      have t3 := same_upd (Same.refl H2) hp3 (o := .lst [.int ((((waysM st.box st.spider st.fly).map (·.1)).map V.int).length : Nat)])
      refine ⟨_, rfl, .inl ⟨rfl, _, SqL.of (t3 _ _ hD2)⟩, _, rfl, D, _, rfl, SqL.of (t3 _ _ hD2), ?_, fun m hm hle => ?_⟩
      · rw [List.length_map]
        exact List.length_pos_iff.mpr wne
      have em : m = Sy73.dist st.box st.spider st.fly := by
        refine dist_is hb1 ok.sp ok.fp ?_ fun x hx => hle _ (List.mem_map.mpr ⟨x, hx, rfl⟩)
        obtain ⟨x, hx, e⟩ := List.mem_map.mp hm
        exact ⟨x.2, by rw [← e]; exact hx⟩
      refine ⟨D, _, m, rfl, rfl, SqL.of (t3 _ _ hD2), fits (m := 1) (Nat.le_refl _), fun p4 hp4 => ?_⟩
      have t4 := same_upd t3 (t3.free hp4) (o := .lst [.int ((((waysM st.box st.spider st.fly).map (·.1)).count m : Nat))])
      refine ⟨p4, _, rfl, upd_same, (by show 1 ≤ 1000; decide), fun H5 q5 t5 nq5 hq5 => ?_⟩
      refine ⟨p3, q5, _, _, rfl, rfl, t5 _ _ (by rw [upd_ne (ne_of_none upd_same hp4)]; exact upd_same), hq5, fits (m := 8) (by show 1 + 2 ≤ 8; decide), fun p6 hp6 => ?_⟩
      have t06 := (t1.trans t2).trans (t4.trans t5)
      refine k _ p6 (kq_same tb (same_upd t06 (t06.free hp6))) (t06.free hp6) ?_ (bx.same (same_upd t06 (t06.free hp6)))
      rw [upd_same]
      have eo : outV (Sy73.step st .many).2 = [V.int ((waysM st.box st.spider st.fly).length : Nat), .int 1, .int ((((waysM st.box st.spider st.fly).map (·.1)).count m : Nat))] := by
        have es : Sy73.step st .many = (st, ⟨((Sy73.ways st.box st.spider st.fly).length : Nat), [[((((Sy73.ways st.box st.spider st.fly).filter fun (x : List Nat × Int) => x.2 == Sy73.dist st.box st.spider st.fly).length : Nat) : Int)]]⟩) := rfl
        rw [es, ways_len hb1 ok.sp, ways_count hb1 ok.sp, em]
        rfl
      rw [eo, List.length_map, List.length_map]
      rfl
def spNums (K : Frg) : Sp := fun vs H Q _ => ∃ (a : Addr) (l : List Int) (i : Nat) (x : Int), vs = [.ref a, nv i] ∧ SqL K H a (l.map V.int) ∧ l[i]? = some x ∧ Q (nv (if x = 4 then i + 2 else i + 1)) H
theorem at_int {l : List Int} {i : Nat} {x : Int} (h : l[i]? = some x) : atI (l.map V.int) (i : Int) = some (.int x) := by
  refine atI_nat ?_
  rw [List.getElem?_map, h]
  rfl
theorem eq_int (x y : Int) : decide (V.int x = V.int y) = decide (x = y) := by
  rw [Bool.eq_iff_iff, decide_eq_true_eq, decide_eq_true_eq]
  exact ⟨V.int.inj, fun z => by rw [z]⟩
theorem c_numbers_from (D : DefOk K mg "numbers_from" s_numbers_from ["calls", "place"]) (T : Tx K mg cS cE cL cB) : C8.Cal P w K mg base 1 "numbers_from" (spNums K) [] := by
  obtain ⟨f, fd, F, b⟩ := D.ex
  refine C8.cal0 F b .nil sc_numbers_from (fun vs H Q E h => ?_) (fun cdv A outer s H vs Q E hr h => ⟨_, (pss_cons (ps_if (pt_cmpR op_eq (pe_ix ix_list (pv 0) (pv 1) (fun _ _ => rfl)) (pe_globI rfl T.g_OVER) (nomark _))
      (pss_one (ps_ret (pe_op op_add (pv 1) pe_int)))
      pss_nil)
    (pss_one (ps_ret (pe_op op_add (pv 1) pe_int)))), ?_⟩)
  · obtain ⟨a, l, i, x, rfl, _⟩ := h
    rfl
  · obtain ⟨a, l, i, x, rfl, hA, hx, k⟩ := h
    refine ⟨_, rfl, _, rfl, _, _, _, _, rfl, rfl, hA, at_int hx, rfl, _, rfl, ?_⟩
    rw [eq_int]
    refine ite2 (fun c => ?_) (fun c => ?_)
    · have c : x = 4 := of_decide_eq_true c
      rw [if_pos c] at k
      exact ⟨_, rfl, _, _, rfl, rfl, k⟩
    · have c : ¬ x = 4 := fun z => c (decide_eq_true z)
      rw [if_neg c] at k
      exact ⟨_, rfl, _, _, rfl, rfl, k⟩
/-- where a call's numbers are over -/
def endM (l : List Int) (i : Nat) (x : Int) : Int := if x = 4 then ((i + 2 : Nat) : Int) + l.getD (i + 1) 0 else if x = 0 ∨ x = 1 ∨ x = 2 then ((i + 4 : Nat) : Int) else if x = 8 then ((i + 2 : Nat) : Int) else ((i + 1 : Nat) : Int)
def spEnd (K : Frg) : Sp := fun vs H Q _ => ∃ (a : Addr) (l : List Int) (i : Nat) (x : Int), vs = [.ref a, nv i] ∧ SqL K H a (l.map V.int) ∧ l[i]? = some x ∧ (x = 4 → i + 1 < l.length) ∧ ∀ H' : Hp, Same H H' → Q (.int (endM l i x)) H'
theorem c_call_end (D : DefOk K mg "call_end" s_call_end ["calls", "place"]) (T : Tx K mg cS cE cL cB) (c_numbers_from : C8.Cal P w K mg base 1 "numbers_from" (spNums K) []) : C8.Cal P w K mg base 2 "call_end" (spEnd K) [] := by
  obtain ⟨f, fd, F, b⟩ := D.ex
  refine C8.cal0 F b .nil sc_call_end (fun vs H Q E h => ?_) (fun cdv A outer s H vs Q E hr h => ⟨_, (pss_cons (ps_if (pt_cmpR op_eq (pe_ix ix_list (pv 0) (pv 1) (fun _ _ => rfl)) (pe_globI rfl T.g_OVER) (nomark _))
      (pss_one (ps_ret (pe_op op_add (C8.pe_c c_numbers_from hr (by omega) rfl (pa_cons (pv 0) (pa_cons (pv 1) pa_nil))) (pe_ix ix_list (pv 0) (pe_op op_add (pv 1) pe_int) (fun _ _ => rfl)))))
      pss_nil)
    (pss_cons (ps_if (pt_cmpR op_in_seq (pe_ix ix_list (pv 0) (pv 1) (fun _ _ => rfl)) (pe_tup (pa_cons (pe_globI rfl T.g_BEGINS) (pa_cons (pe_globI rfl T.g_SPIDER) (pa_cons (pe_globI rfl T.g_FLY) pa_nil)))) rfl)
      (pss_one (ps_ret (pe_op op_add (C8.pe_c c_numbers_from hr (by omega) rfl (pa_cons (pv 0) (pa_cons (pv 1) pa_nil))) pe_int)))
      pss_nil)
    (pss_cons (ps_if (pt_cmpR op_eq (pe_ix ix_list (pv 0) (pv 1) (fun _ _ => rfl)) (pe_globI rfl T.g_WITHIN) (nomark _))
      (pss_one (ps_ret (pe_op op_add (C8.pe_c c_numbers_from hr (by omega) rfl (pa_cons (pv 0) (pa_cons (pv 1) pa_nil))) pe_int)))
      pss_nil)
    (pss_one (ps_ret (C8.pe_c c_numbers_from hr (by omega) rfl (pa_cons (pv 0) (pa_cons (pv 1) pa_nil)))))))), ?_⟩)
  · obtain ⟨a, l, i, x, rfl, _⟩ := h
    rfl
  · obtain ⟨a, l, i, x, rfl, hA, hx, h4, k⟩ := h
    refine ⟨_, rfl, _, rfl, _, _, _, _, rfl, rfl, hA, at_int hx, rfl, _, rfl, ?_⟩
    rw [eq_int]
    refine ite2 (fun c => ?_) (fun c => ?_)
    · have c : x = 4 := of_decide_eq_true c
      have hl := h4 c
      have hy : l[i + 1]? = some (l.getD (i + 1) 0) := by
        rw [List.getD_eq_getElem?_getD, List.getElem?_eq_getElem hl]
        rfl
      have k := k H (Same.refl _)
      unfold endM at k
      rw [if_pos c] at k
      refine ⟨_, rfl, _, rfl, a, l, i, x, rfl, hA, hx, ?_⟩
      rw [if_pos c]
      have at1 : atI (l.map V.int) ((i : Int) + 1) = some (.int (l.getD (i + 1) 0)) := at_int hy
      exact ⟨_, rfl, _, rfl, _, _, rfl, rfl, _, _, _, _, rfl, rfl, hA, at1, _, _, rfl, rfl, k⟩
    · have c : ¬ x = 4 := fun z => c (decide_eq_true z)
      have nb : nv (if x = 4 then i + 2 else i + 1) = nv (i + 1) := by rw [if_neg c]
      refine ⟨_, rfl, _, rfl, _, _, _, _, rfl, rfl, hA, at_int hx, fits (m := 3) (Nat.le_refl _), fun t ht => ?_⟩
      have t1 := same_upd (Same.refl H) ht (o := .tup [.int 0, .int 1, .int 2])
      refine ⟨t, _, rfl, .inr (SqT.of upd_same), rfl, rfl, _, rfl, ?_⟩
      have e1 : (if false = true then !inV (V.int x) [V.int 0, V.int 1, V.int 2] else inV (V.int x) [V.int 0, V.int 1, V.int 2]) = decide (x = 0 ∨ x = 1 ∨ x = 2) := by
        rw [if_neg Bool.false_ne_true]
        unfold inV
        show ((decide ((0 : Int) = x)) || ((decide ((1 : Int) = x)) || ((decide ((2 : Int) = x)) || false))) = _
        rw [Bool.eq_iff_iff]
        simp only [Bool.or_eq_true, decide_eq_true_eq, Bool.false_eq_true, or_false]
        omega
      rw [e1]
      have hA1 := t1.seq hA
      have k := k _ t1
      unfold endM at k
      rw [if_neg c] at k
      refine ite2 (fun c2 => ?_) (fun c2 => ?_)
      · have c2 := of_decide_eq_true c2
        rw [if_pos c2] at k
        refine ⟨_, rfl, _, rfl, a, l, i, x, rfl, hA1, hx, ?_⟩
        rw [nb]
        exact ⟨_, _, rfl, rfl, k⟩
      · have c2 : ¬ (x = 0 ∨ x = 1 ∨ x = 2) := fun z => c2 (decide_eq_true z)
        rw [if_neg c2] at k
        refine ⟨_, rfl, _, rfl, _, _, _, _, rfl, rfl, hA1, at_int hx, rfl, _, rfl, ?_⟩
        rw [eq_int]
        refine ite2 (fun c3 => ?_) (fun c3 => ?_)
        · have c3 := of_decide_eq_true c3
          rw [if_pos c3] at k
          refine ⟨_, rfl, _, rfl, a, l, i, x, rfl, hA1, hx, ?_⟩
          rw [nb]
          exact ⟨_, _, rfl, rfl, k⟩
        · have c3 : ¬ x = 8 := fun z => c3 (decide_eq_true z)
          rw [if_neg c3] at k
          refine ⟨_, rfl, _, rfl, a, l, i, x, rfl, hA1, hx, ?_⟩
          rw [nb]
          exact k
end
end SF

/-! ## WI -/
set_option Elab.async false
set_option maxRecDepth 100000
set_option maxHeartbeats 4000000
namespace SF
open PySem PySem.Spec PyProof.Rows L2 LamX
abbrev s_answer_way : Stmt := top 43
abbrev N_answer_way : List Str := ["box", "nothing", "best"]
theorem sc_answer_way : FnScope N_answer_way ["box", "nothing"] (C8.fnScope s_answer_way) := C8.fnScope_by (by decide +kernel)
/-- a def whose code object is known -/
structure DefOkC (K : Frg) (mg : Str → Option Value) (x : Str) (st : Stmt) (ps : List Str) (c : Addr) : Prop where
  ex : ∃ (f : Addr) (oc : Value) (od : Option Addr) (dV kV doc pm : Value) (an : Option Addr) (ct : Value) (osl : Array (Option Value)),
    K.lookup f = some ⟨oc, od, .func (PySem.W.fnOf x x (C8.fnArgs st) (C8.fnBody st) (C8.fnScope st) dV kV doc pm an (.ref c) ct), osl⟩ ∧ PySem.W.codeIn K (.ref c) x = true ∧ mg x = some (.ref f) ∧ PySem.W.keepIn K (.ref f) = true ∧
      Binds K (PySem.W.fnOf x x (C8.fnArgs st) (C8.fnBody st) (C8.fnScope st) dV kV doc pm an (.ref c) ct) ps []
theorem calC {P : Program} {w : World} {K : Frg} {mg : Str → Option Value} {base : Heap} {x : Str} {st : Stmt} {N ps : List Str} {k : Nat} {sp : Sp} {c : Addr} (D : DefOkC K mg x st ps c) (S : FnScope N ps (C8.fnScope st)) (len : ∀ vs H Q E, sp vs H Q E → vs.length = ps.length)
    (hbody : ∀ (f : Addr) (A : Around) (outer : List Env) (s : Shared) (H : Hp) (vs : List V) (Q : VK) (E : XK), Room k (A.deeper (envOfC x (C8.fnScope st) s.heap.objs.size f (.ref c))) → sp vs H Q E →
      ∃ t, PSs (cxOf C8.CX0 P w K mg base N x (C8.fnScope st) f (.ref c) A outer s H E).nox (C8.fnBody st) t ∧ t { nx := fun _ H' => Q .non H', rt := Q } (L2.start N vs) H) : C8.Cal P w K mg base (k + 1) x sp [] := by
  obtain ⟨f, oc, od, dV, kV, doc, pm, an, ct, osl, lk, hcd, hm, kp, b⟩ := D.ex
  refine ⟨f, _, ps, [], fn_of lk hcd S len fun A outer s H vs Q E hr hsp => ?_, hm, kp, b, .nil⟩
  obtain ⟨t, h, q⟩ := hbody f A outer s H vs Q E hr hsp
  exact ⟨t, h.nox, q⟩
/-- nothing but a table stood there -/
def Fre (H : Hp) (q : Addr) : Prop := ∀ o, H q = some o → ∃ ps, o = .tbl ps
theorem fre_of {H : Hp} {q : Addr} (h : H q = none) : Fre H q := fun o e => by
  rw [h] at e
  cases e
def AnsSpW (T : List (Addr × Str)) (cB : Addr) (R : Sy73.Call → List Nat → Prop) : Sp := fun vs H Q _ => ∃ (B h : Addr) (st : Sy73.St) (c : Sy73.Call) (hs : List Nat), vs = [.ref B, .ref h] ∧ BxAt cB H B st ∧ StOk st ∧ H h = some (.lst (hs.map nv)) ∧ R c hs ∧ Tabs T H ∧
  ∀ (H' : Hp) (q : Addr), Kq T cB h B H H' → Fre H q → H' q = some (.lst (outV (Sy73.step st c).2)) → BxAt cB H' B (Sy73.step st c).1 → Q (.ref q) H'
def lamQ : Str := (envOfC "answer_way" (C8.fnScope s_answer_way) 0 0 .none).qual ++ "<lambda>"
section
variable {P : Program} {w : World} {K : Frg} {mg : Str → Option Value} {base : Heap} {cS cE cL cB tc tP : Addr}
theorem c_answer_way (D : DefOkC K mg "answer_way" s_answer_way ["box", "nothing"] tc) (T : Tx K mg cS cE cL cB) (TB : TabB base mg tc tP) (c_straight_ways : C8.Cal P w K mg base 12 "straight_ways" (spWays cB) []) (c_told_list : C8.Cal P w K mg base 1 "told_list" (spTold K) []) :
    C8.Cal P w K mg base 13 "answer_way" (AnsSpW [(tP, lamQ)] cB (fun c hs => c = .way)) [] := by
  refine calC D sc_answer_way (fun vs H Q E h => ?_) (fun f A outer s H vs Q E hr h => ⟨_, (pss_cons (ps_set (i := 2) sc_answer_way.nd rfl (Or.inl rfl) (pe_minkey (c := tc) (P := tP) (T := [(tP, lamQ)]) (N := ["found"]) (v0 := "found") rfl T.n_min (pa_cons (C8.pe_c c_straight_ways hr (by omega) rfl (pa_cons (pv 0) pa_nil)) pa_nil) TB rfl (.head _) (by intro p hp _; rw [List.mem_singleton.mp hp]; rfl) (hr.mono (by decide)) rfl rfl (by decide +kernel) (C8.fnScope_by (by decide +kernel)) (fun _ _ _ _ _ => rfl) (fun _ _ _ _ _ _ => (pe_tup (pa_cons (pe_ix (ix_tupK K) (pv 0) pe_int (fun _ _ => rfl)) (pa_cons (pe_callB (call_len_seqK K) (by rfl) T.n_len PySem.boot_len (pa_cons (pe_ix (ix_tupK K) (pv 0) pe_int (fun _ _ => rfl)) pa_nil)) (pa_cons (pe_ix (ix_tupK K) (pv 0) pe_int (fun _ _ => rfl)) pa_nil))))) ?hk))
    (pss_one (ps_ret (pe_op op_cat (pe_lst (pa_cons (pe_ix ix_tup (pv 2) pe_int (fun _ _ => rfl)) pa_nil)) (C8.pe_c c_told_list hr (by omega) rfl (pa_cons (pe_ix ix_tup (pv 2) pe_int (fun _ _ => rfl)) pa_nil)))))), ?_⟩)
  case hk =>
    intro a x H1 Q1 ⟨ra, h1, hne, h2⟩ q
    refine ⟨_, rfl, _, _, _, _, rfl, rfl, SqT.of h1, rfl, _, rfl, _, _, _, _, rfl, rfl, SqT.of h1, rfl, ra, _, rfl, .inl (SqL.of h2), _, rfl, _, _, _, _, rfl, rfl, SqT.of h1, rfl, fits (m := 3) (Nat.le_refl _), fun t ht => ?_⟩
    have s1 := same_upd (Same.refl H1) ht (o := .tup [.int x.1, .int ((x.2.map nv).length : Nat), .ref ra])
    refine q _ t s1 ⟨ra, ?_, s1 _ _ h2⟩
    rw [upd_same, List.length_map]
    rfl
  · obtain ⟨B, h, st, c, hs, rfl, _⟩ := h
    rfl
  · obtain ⟨B, h, st, c, hs, rfl, bx, ok, hH, rfl, tb, k⟩ := h
    have hb1 : ∀ i, i < 3 → 0 < Sy73.nth st.box i := fun i hi => ok.b1 i hi
    obtain ⟨x0, rest, ew, _, es⟩ := dist_best hb1 ok.sp ok.fp
    refine ⟨_, rfl, B, st, rfl, bx, ok, fun H1 z as t1 nz hz ws => ?_⟩
    rw [ew] at ws
    refine ⟨z, as, x0, rest, rfl, hz, ws, tb.ext t1, fun H2 a eN T2 way => ?_⟩
    have hbm := best_mem rest x0
    rw [← ew] at hbm
    generalize bestM x0 rest = b at *
    obtain ⟨ra, ha, hne, hra⟩ := way
    have hlen : b.2.length ≤ 6 := by
      have hm := (mem_waysM (d := b.1) (r := b.2)).mp hbm
      have hj := hm.1
      rw [join_all] at hj
      exact len_all (fun f hf => mem_facesOf hf) (List.mem_filter.mp hj).1
    have k12 : ∀ c o, H c = some o → (∀ ps, o ≠ .tbl ps) → H2 c = some o := fun c o e n => eN c o (t1 c o e) n
    have bx2 : BxAt cB H2 B st := by
      obtain ⟨dx, l, s, f, bx⟩ := bx
      exact ⟨dx, l, s, f, k12 _ _ bx.at_ (fun _ z => by cases z), k12 _ _ bx.l_ (fun _ z => by cases z), k12 _ _ bx.s_ (fun _ z => by cases z), k12 _ _ bx.f_ (fun _ z => by cases z)⟩
    refine ⟨_, rfl, _, _, _, _, rfl, rfl, SqT.of ha, rfl, fits (m := 1) (Nat.le_refl _), fun p hp => ?_⟩
    have t3 := same_upd (Same.refl H2) hp (o := .lst [.int b.1])
    refine ⟨_, rfl, _, _, _, _, rfl, rfl, SqT.of (t3 _ _ ha), rfl, ra, _, rfl, t3 _ _ hra, by rw [List.length_map]; omega, fun H4 q4 t4 nq4 hq4 => ?_⟩
    refine ⟨p, q4, _, _, rfl, rfl, t4 _ _ upd_same, hq4, fits (m := 8) ?_, fun p5 hp5 => ?_⟩
    · simp only [List.length_cons, List.length_nil, List.length_map]
      omega
    have t24 := t3.trans t4
    have t25 := same_upd t24 (t24.free hp5) (o := .lst ([V.int b.1] ++ .int ((b.2.map nv).length : Nat) :: b.2.map nv))
    have nH : Fre H p5 := fun o e => by
      have n2 := t24.free hp5
      cases o with
      | tbl ps => exact ⟨ps, rfl⟩
      | _ =>
        have := k12 _ _ e (fun ps z => by cases z)
        rw [n2] at this
        cases this
    refine k _ p5 ⟨⟨fun c o _ e n => t25 _ _ (k12 c o e n), T2.ext t25⟩, hold_keep fun _ _ _ _ e => t25 _ _ (k12 _ _ e (fun _ z => by cases z))⟩ nH ?_ (bx2.same t25)
    rw [upd_same]
    have eo : outV (Sy73.step st .way).2 = [V.int b.1] ++ .int ((b.2.length : Nat) : Int) :: b.2.map nv := by
      have e1 : Sy73.step st .way = (st, ⟨b.1, [Sy73.ints b.2]⟩) := by
        show (st, match Sy73.shortest st.box st.spider st.fly with
          | none => Sy73.ok (-6)
          | some x => (⟨x.2, [Sy73.ints x.1]⟩ : Sy73.Ans)) = _
        rw [es]
        rfl
      rw [e1]
      unfold outV Sy73Neutral.out
      show List.map V.int (b.1 :: ([Sy73.ints b.2].flatMap fun (w : List Int) => (w.length : Int) :: w)) = _
      simp [Sy73.ints]
      exact fun _ _ => rfl
    rw [eo, List.length_map]
end
end SF

/-! ## WJ -/
set_option Elab.async false
set_option maxRecDepth 100000
set_option maxHeartbeats 4000000
namespace SF
open PySem PySem.Spec PyProof.Rows L2 LamX
/-! ### a call from the front of what is left -/
def RK : Nat → Sy73.Call → List Nat → Prop
  | 0 => fun c hs => ∃ x y z, c = .begins x y z ∧ hs = [x, y, z]
  | 1 => fun c hs => ∃ x y z, c = .spider x y z ∧ hs = [x, y, z]
  | 2 => fun c hs => ∃ x y z, c = .fly x y z ∧ hs = [x, y, z]
  | 3 => fun c _ => c = .way
  | 4 => fun c hs => c = .over hs ∧ hs.length ≤ 60
  | 5 => fun c _ => c = .many
  | 6 => fun c _ => c = .straight
  | 7 => fun c _ => c = .farthest
  | 8 => fun c hs => ∃ n, c = .within n ∧ hs = [n]
  | 9 => fun c _ => c = .faces
  | 10 => fun c _ => c = .state
  | _ => fun _ _ => False
theorem cut_mid {xs : List V} {i j : Nat} (h1 : i ≤ j) (h2 : j ≤ xs.length) : cutV xs (some (i : Int)) (some (j : Int)) = (xs.drop i).take (j - i) := by
  unfold cutV
  rw [HT.sIx_nat, HT.sIx_nat, Nat.min_eq_left (show i ≤ xs.length by omega), Nat.min_eq_left h2]
structure Front (l : List Int) (p : Nat) (c : Sy73.Call) (t : List Int) (x e : Nat) (hs : List Nat) : Prop where
  at_ : l[p]? = some (x : Int)
  le : x ≤ 10
  four : x = 4 → p + 1 < l.length
  fin : endM l p (x : Int) = (e : Int)
  el : e ≤ l.length
  lt : p < e
  rest : t = l.drop e
  cut : cutV (l.map V.int) (some (((if (x : Int) = 4 then p + 2 else p + 1 : Nat) : Nat) : Int)) (some (e : Int)) = hs.map nv
  kind : RK x c hs
theorem front_of {l : List Int} {p : Nat} {d : List Int} {c : Sy73.Call} {t : List Int} {x o n : Nat} {hs : List Nat} (hd : l.drop p = d) (h0 : d[0]? = some (x : Int)) (hx : x ≤ 10) (ho : (if (x : Int) = 4 then p + 2 else p + 1 : Nat) = p + o) (h1 : 1 ≤ o) (ho2 : o ≤ d.length) (hl : o + n ≤ d.length)
    (he : endM l p (x : Int) = ((p + (o + n) : Nat) : Int)) (ht : t = d.drop (o + n)) (hc : ((d.drop o).take n).map V.int = hs.map nv) (hk : RK x c hs) : Front l p c t x (p + (o + n)) hs := by
  have hlen : d.length = l.length - p := by rw [← hd, List.length_drop]
  have hp : p < l.length := by omega
  refine ⟨?_, hx, fun h => ?_, he, by omega, by omega, ?_, ?_, hk⟩
  · rw [← hd, List.getElem?_drop] at h0
    exact h0
  · subst h
    have : p + 2 = p + o := ho
    omega
  · rw [ht, ← hd, List.drop_drop]
  · rw [ho, cut_mid (by omega) (by rw [List.length_map]; omega), ← hc]
    have e1 : p + (o + n) - (p + o) = n := by omega
    rw [e1, ← List.map_drop, ← List.map_take, ← hd, List.drop_drop]
theorem reads_front {l : List Int} {p : Nat} {c : Sy73.Call} {t : List Int} (h : Reads (l.drop p) c t) : ∃ x e hs, Front l p c t x e hs := by
  generalize hd : l.drop p = d at h
  have g0 : ∀ i, d[i]? = l[p + i]? := fun i => by rw [← hd, List.getElem?_drop]
  have end3 : ∀ x : Nat, (x = 0 ∨ x = 1 ∨ x = 2) → endM l p (x : Int) = ((p + (1 + 3) : Nat) : Int) := fun x hx => by
    unfold endM
    rw [if_neg (by omega), if_pos (by omega)]
  have end0 : ∀ x : Nat, x ≠ 4 → ¬ (x = 0 ∨ x = 1 ∨ x = 2) → x ≠ 8 → endM l p (x : Int) = ((p + (1 + 0) : Nat) : Int) := fun x h1 h2 h3 => by
    unfold endM
    rw [if_neg (by omega), if_neg (by omega), if_neg (by omega)]
  have o1 : ∀ x : Nat, x ≠ 4 → (if (x : Int) = 4 then p + 2 else p + 1 : Nat) = p + 1 := fun x h => if_neg (by omega)
  cases h with
  | begins x y z t => exact ⟨0, _, [x, y, z], front_of (o := 1) (n := 3) hd rfl (by decide) (o1 0 (by decide)) (Nat.le_refl _) (by simp) (by simp) (end3 0 (by decide)) rfl rfl ⟨x, y, z, rfl, rfl⟩⟩
  | spider x y z t => exact ⟨1, _, [x, y, z], front_of (o := 1) (n := 3) hd rfl (by decide) (o1 1 (by decide)) (Nat.le_refl _) (by simp) (by simp) (end3 1 (by decide)) rfl rfl ⟨x, y, z, rfl, rfl⟩⟩
  | fly x y z t => exact ⟨2, _, [x, y, z], front_of (o := 1) (n := 3) hd rfl (by decide) (o1 2 (by decide)) (Nat.le_refl _) (by simp) (by simp) (end3 2 (by decide)) rfl rfl ⟨x, y, z, rfl, rfl⟩⟩
  | way t => exact ⟨3, _, [], front_of (o := 1) (n := 0) hd rfl (by decide) (o1 3 (by decide)) (Nat.le_refl _) (by simp) (by simp) (end0 3 (by decide) (by decide) (by decide)) rfl rfl rfl⟩
  | over fs t hn hb =>
    have e4 : endM l p ((4 : Nat) : Int) = ((p + (2 + fs.length) : Nat) : Int) := by
      unfold endM
      rw [if_pos (show ((4 : Nat) : Int) = 4 from rfl)]
      have := g0 1
      have h1 : l[p + 1]? = some ((fs.length : Nat) : Int) := by rw [← this]; rfl
      rw [List.getD_eq_getElem?_getD, h1]
      show ((p + 2 : Nat) : Int) + ((fs.length : Nat) : Int) = _
      omega
    have ln : (nums fs).length = fs.length := List.length_map _
    refine ⟨4, _, fs, front_of (o := 2) (n := fs.length) hd rfl (by decide) (if_pos rfl) (by decide) (by simp) (by simp [ln]; omega) e4 ?_ ?_ ⟨rfl, hn⟩⟩
    · rw [← List.drop_drop]
      show t = (nums fs ++ t).drop fs.length
      rw [← ln, List.drop_left]
    · show ((nums fs ++ t).take fs.length).map V.int = _
      rw [← ln, List.take_left, nv_map]
      rfl
  | many t => exact ⟨5, _, [], front_of (o := 1) (n := 0) hd rfl (by decide) (o1 5 (by decide)) (Nat.le_refl _) (by simp) (by simp) (end0 5 (by decide) (by decide) (by decide)) rfl rfl rfl⟩
  | straight t => exact ⟨6, _, [], front_of (o := 1) (n := 0) hd rfl (by decide) (o1 6 (by decide)) (Nat.le_refl _) (by simp) (by simp) (end0 6 (by decide) (by decide) (by decide)) rfl rfl rfl⟩
  | farthest t => exact ⟨7, _, [], front_of (o := 1) (n := 0) hd rfl (by decide) (o1 7 (by decide)) (Nat.le_refl _) (by simp) (by simp) (end0 7 (by decide) (by decide) (by decide)) rfl rfl rfl⟩
  | within n t hn =>
    have e8 : endM l p ((8 : Nat) : Int) = ((p + (1 + 1) : Nat) : Int) := by
      unfold endM
      rw [if_neg (by omega), if_neg (by omega), if_pos (show ((8 : Nat) : Int) = 8 from rfl)]
    exact ⟨8, _, [n], front_of (o := 1) (n := 1) hd rfl (by decide) (o1 8 (by decide)) (Nat.le_refl _) (by simp) (by simp) e8 rfl rfl ⟨n, rfl, rfl⟩⟩
  | faces t => exact ⟨9, _, [], front_of (o := 1) (n := 0) hd rfl (by decide) (o1 9 (by decide)) (Nat.le_refl _) (by simp) (by simp) (end0 9 (by decide) (by decide) (by decide)) rfl rfl rfl⟩
  | state t => exact ⟨10, _, [], front_of (o := 1) (n := 0) hd rfl (by decide) (o1 10 (by decide)) (Nat.le_refl _) (by simp) (by simp) (end0 10 (by decide) (by decide) (by decide)) rfl rfl rfl⟩
/-! ### the state stays as it should -/
theorem stok_init : StOk Sy73.init := by
  refine ⟨rfl, ?_, ?_, rfl, ⟨?_, ?_⟩, rfl, ⟨?_, ?_⟩⟩
  · decide
  · intro i
    match i with
    | 0 => decide
    | 1 => decide
    | 2 => decide
    | i + 3 => exact Nat.zero_le _
  · decide
  · decide
  · decide
  · decide
theorem place_ok {st : Sy73.St} {p : List Nat} (h : ¬ (facesM st.box p).isEmpty = true) : Pts st.box p := by
  unfold facesM at h
  split at h
  · rename_i c
    refine ⟨fun i hi => of_decide_eq_true (List.all_eq_true.mp c i (List.mem_range.mpr hi)), fun e => h (by rw [e]; rfl)⟩
  · exact absurd rfl h
theorem stok_step {st : Sy73.St} (ok : StOk st) (c : Sy73.Call) : StOk (Sy73.step st c).1 := by
  cases c with
  | begins x y z =>
    by_cases h : x < 1 ∨ 40 < x ∨ y < 1 ∨ 40 < y ∨ z < 1 ∨ 40 < z
    · have : Sy73.step st (.begins x y z) = (st, Sy73.ok (-1)) := if_pos h
      rw [this]
      exact ok
    · have : Sy73.step st (.begins x y z) = (⟨[x, y, z], [0, 0, 0], [x, y, z]⟩, Sy73.ok 0) := if_neg h
      rw [this]
      refine ⟨rfl, ?_, ?_, rfl, ⟨?_, ?_⟩, rfl, ⟨fun i _ => Nat.le_refl _, ?_⟩⟩
      · intro i hi
        match i, hi with
        | 0, _ => show 1 ≤ x; omega
        | 1, _ => show 1 ≤ y; omega
        | 2, _ => show 1 ≤ z; omega
      · intro i
        match i with
        | 0 => show x ≤ 40; omega
        | 1 => show y ≤ 40; omega
        | 2 => show z ≤ 40; omega
        | i + 3 => exact Nat.zero_le _
      · intro i hi
        match i, hi with
        | 0, _ => exact Nat.zero_le _
        | 1, _ => exact Nat.zero_le _
        | 2, _ => exact Nat.zero_le _
      · intro e
        have : 0 ∈ Sy73.facesOf [x, y, z] [0, 0, 0] := List.mem_filter.mpr ⟨List.mem_range.mpr (by decide), rfl⟩
        rw [e] at this
        cases this
      · intro e
        have : 1 ∈ Sy73.facesOf [x, y, z] [x, y, z] := List.mem_filter.mpr ⟨List.mem_range.mpr (by decide), (onFace_iff _ _ _).mpr (by show (x : Int) = (x : Int) * 1; omega)⟩
        rw [e] at this
        cases this
  | spider x y z =>
    have es : Sy73.step st (.spider x y z) = _ := place_eq (st := st) (p := [x, y, z]) rfl fun p => { st with spider := p }
    by_cases h : (facesM st.box [x, y, z]).isEmpty = true
    · rw [es, if_pos h]
      exact ok
    · rw [es, if_neg h]
      exact ⟨ok.b3, ok.b1, ok.b40, rfl, place_ok h, ok.f3, ok.fp⟩
  | fly x y z =>
    have es : Sy73.step st (.fly x y z) = _ := place_eq (st := st) (p := [x, y, z]) rfl fun p => { st with fly := p }
    by_cases h : (facesM st.box [x, y, z]).isEmpty = true
    · rw [es, if_pos h]
      exact ok
    · rw [es, if_neg h]
      exact ⟨ok.b3, ok.b1, ok.b40, ok.s3, ok.sp, rfl, place_ok h⟩
  | way => exact ok
  | over l => exact ok
  | many => exact ok
  | straight => exact ok
  | farthest => exact ok
  | within n => exact ok
  | faces => exact ok
  | state => exact ok
theorem kp_seq {K : Frg} {T : List (Addr × Str)} {B C dx a : Addr} {fs : List (Str × V)} {H H' : Hp} {xs : List V} (hB : H B = some (.ins C dx fs)) (k : Kp T B H H') (h : SqL K H a xs) : SqL K H' a xs := by
  rcases h with (h | ⟨o, h⟩) | h
  · exact .inl (.inl (k.1 _ _ (fun z => by rw [z, hB] at h; cases h) h (fun _ z => by cases z)))
  · exact .inl (.inr ⟨o, k.1 _ _ (fun z => by rw [z, hB] at h; cases h) h (fun _ z => by cases z)⟩)
  · exact .inr h
end SF

/-! ## WK -/
set_option Elab.async false
set_option maxRecDepth 100000
set_option maxHeartbeats 4000000
namespace SF
open PySem PySem.Spec PyProof.Rows L2 LamX
abbrev s_answers : Stmt := top 57
abbrev N_answers : List Str := ["calls", "box", "told", "place", "end", "handed", "answer"]
theorem sc_answers : FnScope N_answers ["calls"] (C8.fnScope s_answers) := C8.fnScope_by (by decide +kernel)
def spOf (T : List (Addr × Str)) (cB : Addr) (i : Nat) : Sp := if i = 3 then AnsSpW T cB (RK i) else AnsSp T cB (RK i)
def Hd (T : List (Addr × Str)) (cB : Addr) (fs : List Addr) (f : Addr) (sp : Sp) : Prop := ∃ i, i ≤ 10 ∧ fs[i]? = some f ∧ sp = spOf T cB i
theorem sq_put {K : Frg} {a R : Addr} {xs : List V} {H : Hp} {o : HO} (n : a ≠ R ∨ ∀ H', SqL K H' a xs) (h : SqL K H a xs) : SqL K (upd H R o) a xs := by
  rcases n with n | n
  · rcases h with (h | ⟨ob, h⟩) | h
    · exact .inl (.inl (by rw [upd_ne n]; exact h))
    · exact .inl (.inr ⟨ob, by rw [upd_ne n]; exact h⟩)
    · exact .inr h
  · exact n _
theorem tabs_putL {T : List (Addr × Str)} {H : Hp} {B : Addr} {xs xs' : List V} (h : H B = some (.lst xs)) (t : Tabs T H) : Tabs T (upd H B (.lst xs')) := fun p hp => by
  obtain ⟨ps, h1, h2, h3⟩ := t p hp
  have n1 : p.1 ≠ B := fun z => by
    rw [z, h] at h1
    cases h1
  refine ⟨ps, by rw [upd_ne n1]; exact h1, h2, fun pos cv hc => ?_⟩
  obtain ⟨c, e1, e2⟩ := h3 pos cv hc
  have n2 : c ≠ B := fun z => by
    rw [z, h] at e2
    unfold CodeO at e2
    cases e2
  exact ⟨c, e1, by rw [upd_ne n2]; exact e2⟩
theorem sp_of {T : List (Addr × Str)} {cB : Addr} {n : Nat} {vs : List V} {H : Hp} {Q : VK} {E : XK} (h : AnsSpW T cB (RK n) vs H Q E) : spOf T cB n vs H Q E := by
  unfold spOf
  by_cases c : n = 3
  · rw [if_pos c]
    exact h
  · rw [if_neg c]
    obtain ⟨B, a, st, c, hs, h1, h2, h3, h4, h5, h6, k⟩ := h
    exact ⟨B, a, st, c, hs, h1, h2, h3, h4, h5, h6, fun H' q a b c d => k H' q a (fre_of b) c d⟩
def spAns (K : Frg) (tP : Addr) : Sp := fun vs H Q _ => ∃ (a : Addr) (l : List Int), vs = [.ref a] ∧ SqL K H a (l.map V.int) ∧ Tabs [(tP, lamQ)] H ∧ Fine l ∧ (due Sy73.init l).length ≤ 10000000 ∧
  ∀ (H' : Hp) (q : Addr), H' q = some (.lst ((due Sy73.init l).map V.int)) → Q (.ref q) H'
section
variable {P : Program} {w : World} {K : Frg} {mg : Str → Option Value} {base : Heap} {cS cE cL cB tP aT : Addr} {fs : List Addr}
theorem fn_answers {f : Addr} {fd : FuncData} (F : C8.Def K mg "answers" s_answers f fd) (T : Tx K mg cS cE cL cB) (gA_ANSWERERS : ∃ u, mg "ANSWERERS" = some u ∧ RelV (.ref aT) u) (ST : ∀ H, SqT K H aT (refs fs)) (fl : fs.length = 11)
    (AH : ∀ f sp, Hd [(tP, lamQ)] cB fs f sp → C8.CalAt P w K mg base 13 f sp) (m_Box : C8.Mak P w K mg base 1 "Box" cB (spBxI cB) []) (c_call_end : C8.Cal P w K mg base 2 "call_end" (spEnd K) []) (c_numbers_from : C8.Cal P w K mg base 1 "numbers_from" (spNums K) []) :
    FnOk P w K mg base C8.CX0 14 f fd ["calls"] (spAns K tP) := by
  refine C8.fn0 F.fn sc_answers (fun vs H Q E h => ?_) (fun cdv A outer s H vs Q E hr h => ⟨_, (pss_cons (ps_set (i := 1) sc_answers.nd rfl (Or.inl rfl) (pe_mk0 m_Box hr (by omega) rfl))
    (pss_cons (ps_set (i := 2) sc_answers.nd rfl (Or.inl rfl) (pe_lst pa_nil))
    (pss_cons (ps_set (i := 3) sc_answers.nd rfl (Or.inl rfl) pe_int)
    (pss_cons (ps_while PassesOwn.never (pt_cmpR op_lt (pv 3) (pe_callB call_len_seq (by rfl) T.n_len PySem.boot_len (pa_cons (pv 0) pa_nil)) (nomark _))
      (pss_cons (ps_set (i := 4) sc_answers.nd rfl (Or.inl rfl) (C8.pe_c c_call_end hr (by omega) rfl (pa_cons (pv 0) (pa_cons (pv 3) pa_nil))))
    (pss_cons (ps_set (i := 5) sc_answers.nd rfl (Or.inl rfl) (pe_slice sl_list (pv 0) (po_some (C8.pe_c c_numbers_from hr (by omega) rfl (pa_cons (pv 0) (pa_cons (pv 3) pa_nil)))) (po_some (pv 4))))
    (pss_cons (ps_set (i := 6) sc_answers.nd rfl (Or.inl rfl) (pe_callX AH hr (by omega) (pe_ix ix_tup (C8.pe_gc rfl gA_ANSWERERS) (pe_ix ix_list (pv 0) (pv 3) (fun _ _ => rfl)) (fun _ _ => rfl)) (pa_cons (pv 1) (pa_cons (pv 5) pa_nil))))
    (pss_cons (ps_expr (pe_bm PySem.F.plainAttrs_list PySem.F.slot_list_append PySem.F.type_list_append mt_append (pv 2) (pa_cons (pe_callB call_len_seq (by rfl) T.n_len PySem.boot_len (pa_cons (pv 6) pa_nil)) pa_nil)))
    (pss_cons (ps_expr (pe_bm PySem.F.plainAttrs_list PySem.F.slot_list_extend PySem.F.type_list_extend mt_extend (pv 2) (pa_cons (pv 6) pa_nil)))
    (pss_one (ps_set (i := 3) sc_answers.nd rfl (Or.inl rfl) (pv 4)))))))))
    (pss_one (ps_ret (pv 2))))))), ?_⟩)
  · obtain ⟨a, l, rfl, _⟩ := h
    rfl
  · obtain ⟨a, l, rfl, hA, tb, fine, hdl, k⟩ := h
    refine fun x dx hx hdx ne => ⟨x, dx, rfl, upd_same, fun H1 bx keep => ⟨rfl, ?_⟩⟩
    have t1 : Same H H1 := Same.made hx hdx keep
    refine ⟨Nat.zero_le _, fun R hR => ?_⟩
    have t2 := same_upd t1 (t1.free hR) (o := .lst [])
    have bx2 := bx.same (same_upd (Same.refl _) hR (o := .lst []))
    have aR : a ≠ R ∨ ∀ H', SqL K H' a (l.map V.int) := by
      have nR : H R = none := t1.free hR
      rcases hA with (h | ⟨o, h⟩) | h
      · exact .inl (ne_of_none h nR)
      · exact .inl (ne_of_none h nR)
      · exact .inr fun _ => .inr h
    have hold0 : ∀ dx l s f, (upd H1 R (.lst ([] : List V))) x = some (.ins cB dx (bxF l s f)) → l ≠ R ∧ s ≠ R ∧ f ≠ R := by
      intro dx' l' s' f' e
      obtain ⟨dxB, lB, sB, fB, bi⟩ := bx
      have xR : x ≠ R := ne_of_none bi.at_ hR
      rw [upd_ne xR, bi.at_] at e
      obtain ⟨_, rfl, rfl, rfl⟩ := bx_inj e
      exact ⟨ne_of_none bi.l_ hR, ne_of_none bi.s_ hR, ne_of_none bi.f_ hR⟩
    refine while_by (fun σ H' => ∃ (p : Nat) (st : Sy73.St) (told : List Int) (v4 v5 v6 : Option V), σ = [some (.ref a), some (.ref x), some (.ref R), some (nv p), v4, v5, v6] ∧ BxAt cB H' x st ∧ StOk st ∧ SqL K H' a (l.map V.int) ∧ Tabs [(tP, lamQ)] H' ∧ H' R = some (.lst (told.map V.int)) ∧ (∀ dx l s f, H' x = some (.ins cB dx (bxF l s f)) → l ≠ R ∧ s ≠ R ∧ f ≠ R) ∧
        p ≤ l.length ∧ Fine (l.drop p) ∧ told ++ due st (l.drop p) = due Sy73.init l)
      (fun (σ : L2.St) (_ : Hp) => match σ[3]? with | some (some (V.int p)) => l.length - p.toNat | _ => 0) ?_ ?_ ?_
    · exact ⟨0, Sy73.init, [], none, none, none, rfl, bx2, stok_init, t2.seq hA, tb.ext t2, upd_same, hold0, Nat.zero_le _, by rw [List.drop_zero]; exact fine, by rw [List.drop_zero]; rfl⟩
    · rintro σ H3 ⟨p, st, told, v4, v5, v6, rfl, bx3, ok, hA3, tb3, hR3, hold3, hp, fp, hdue⟩
      refine ⟨_, rfl, _, rfl, a, _, rfl, .inl hA3, _, _, rfl, rfl, _, rfl, ?_⟩
      rw [List.length_map]
      refine ite2 (fun c => ?_) (fun c => ?_)
      · have hlt : p < l.length := by
          have := of_decide_eq_true c
          omega
        have hne : l.drop p ≠ [] := by
          intro z
          have := congrArg List.length z
          rw [List.length_drop] at this
          simp only [List.length_nil] at this
          omega
        obtain ⟨c, t, hRd, ft, hdu⟩ := due_step fp hne
        obtain ⟨n, e, hs, Fr⟩ := reads_front hRd
        refine ⟨_, rfl, _, rfl, a, l, p, (n : Int), rfl, hA3, Fr.at_, fun h => Fr.four (by omega), fun H4 t4 => ?_⟩
        rw [Fr.fin]
        have hA4 := t4.seq hA3
        refine ⟨_, rfl, _, rfl, _, rfl, a, l, p, (n : Int), rfl, hA4, Fr.at_, _, rfl, _, rfl, _, rfl, a, _, rfl, hA4, fun h hh => ?_⟩
        rw [Fr.cut]
        have t5 := same_upd t4 (t4.free hh) (o := .lst (hs.map nv))
        have hA5 := t5.seq hA3
        obtain ⟨f0, hf0⟩ : ∃ f0, fs[n]? = some f0 := ⟨_, List.getElem?_eq_getElem (by have := Fr.le; omega)⟩
        have atF : atI (refs fs) (n : Int) = some (.ref f0) := by
          refine atI_nat ?_
          unfold refs
          rw [List.getElem?_map, hf0]
          rfl
        refine ⟨_, rfl, _, rfl, _, _, _, _, rfl, rfl, hA5, at_int Fr.at_, aT, refs fs, (n : Int), .ref f0, rfl, rfl, ST _, atF, f0, spOf [(tP, lamQ)] cB n, rfl, ⟨n, Fr.le, hf0, rfl⟩, _, rfl, _, rfl, ?_⟩
        refine sp_of ⟨x, h, st, c, hs, rfl, bx3.same t5, ok, upd_same, Fr.kind, tb3.ext t5, fun H6 q kq fre hq bx6 => ?_⟩
        have kp := kq.1
        obtain ⟨dxB, lB, sB, fB, bi⟩ := id bx3
        have hBx := t5 _ _ bi.at_
        have hA6 := kp_seq hBx kp hA5
        have nR : R ≠ x := ne_of hR3 bi.at_ (by intro z; cases z)
        have hR6 : H6 R = some (.lst (told.map V.int)) := kp.1 _ _ nR (t5 _ _ hR3) (fun _ z => by cases z)
        have nq : q ≠ R := fun z => by
          obtain ⟨ps, e⟩ := fre _ (by rw [z]; exact t5 _ _ hR3)
          cases e
        have hlen : told.length + (1 + (Sy73Neutral.out (Sy73.step st c).2).length + (due (Sy73.step st c).1 t).length) ≤ 10000000 := by
          have e1 := congrArg List.length hdue
          rw [hdu, List.length_append, List.length_cons, List.length_append] at e1
          omega
        have big : (10000000 : Nat) < sizeLine := by decide
        refine ⟨_, rfl, .inl ⟨rfl, _, SqL.of hR6⟩, _, rfl, q, _, rfl, .inl (SqL.of hq), ?_⟩
        have el : (outV (Sy73.step st c).2).length = (Sy73Neutral.out (Sy73.step st c).2).length := List.length_map _
        rw [el]
        refine ⟨R, told.map V.int, _, rfl, rfl, hR6, by rw [List.length_map]; omega, ?_⟩
        have nRq : (upd H6 R (.lst (told.map V.int ++ [.int (((Sy73Neutral.out (Sy73.step st c).2).length : Nat) : Int)]))) q = some (.lst (outV (Sy73.step st c).2)) := by
          rw [upd_ne nq]
          exact hq
        refine ⟨_, rfl, .inl ⟨rfl, _, SqL.of upd_same⟩, _, rfl, R, q, _, _, rfl, rfl, upd_same, nRq, ?_, ?_⟩
        · rw [List.length_append, List.length_map, el]
          show told.length + 1 + _ ≤ _
          omega
        have hR5 := t5 _ _ hR3
        obtain ⟨l', s', f', eB, hold⟩ := kq.2 dxB lB sB fB hBx
        have old3 := hold3 dxB lB sB fB bi.at_
        have hne : ∀ y, (y = l' ∨ y = s' ∨ y = f') → y ≠ R := by
          intro y hy
          rcases hold y hy with rfl | hn | rfl | rfl | rfl
          · exact (ne_of_none (t4 _ _ hR3) hh).symm
          · exact fun z => by rw [z, hR5] at hn; cases hn
          · exact old3.1
          · exact old3.2.1
          · exact old3.2.2
        obtain ⟨dx6, l6, s6, f6, b6⟩ := bx6
        have eB6 := b6.at_
        rw [eB] at eB6
        obtain ⟨rfl, rfl, rfl, rfl⟩ := bx_inj eB6
        have lst6 : ∀ {y : Addr} {o : HO} {o1 o2 : HO}, y ≠ R → H6 y = some o → (upd (upd H6 R o1) R o2) y = some o := fun n e => by
          rw [upd_ne n, upd_ne n]
          exact e
        have tell : told ++ ((((Sy73Neutral.out (Sy73.step st c).2).length : Nat) : Int) :: Sy73Neutral.out (Sy73.step st c).2) ++ due (Sy73.step st c).1 (l.drop e) = due Sy73.init l := by
          rw [← hdue, hdu, ← Fr.rest]
          simp
        refine ⟨_, rfl, ⟨e, (Sy73.step st c).1, told ++ ((((Sy73Neutral.out (Sy73.step st c).2).length : Nat) : Int) :: Sy73Neutral.out (Sy73.step st c).2), _, _, _, rfl, ?_, stok_step ok c, ?_, ?_, ?_, ?_, Fr.el, by rw [← Fr.rest]; exact ft, tell⟩, ?_⟩
        · exact ⟨dxB, l', s', f', lst6 nR.symm eB, lst6 (hne _ (.inl rfl)) b6.l_, lst6 (hne _ (.inr (.inl rfl))) b6.s_, lst6 (hne _ (.inr (.inr rfl))) b6.f_⟩
        · exact sq_put aR (sq_put aR hA6)
        · exact tabs_putL upd_same (tabs_putL hR6 kp.2)
        · rw [upd_same, List.map_append, List.map_cons, List.append_assoc]
          rfl
        · intro dx7 l7 s7 f7 e7
          rw [upd_ne nR.symm, upd_ne nR.symm, eB] at e7
          obtain ⟨_, rfl, rfl, rfl⟩ := bx_inj e7
          exact ⟨hne _ (.inl rfl), hne _ (.inr (.inl rfl)), hne _ (.inr (.inr rfl))⟩
        · have := Fr.lt
          show l.length - ((e : Int)).toNat < l.length - ((p : Int)).toNat
          omega
      · have hp2 : p = l.length := by
          have : ¬ (p : Int) < (l.length : Int) := fun z => c (decide_eq_true z)
          omega
        refine ⟨_, rfl, k H3 R ?_⟩
        rw [hR3, ← hdue, hp2, List.drop_length]
        have : due st [] = [] := rfl
        rw [this, List.append_nil]
    · intro σ H3 Q1 Q2 m h
      obtain ⟨v, e1, v2, e2, p, ys, e3, e4, i, j, e5, e6, b, e7, hq⟩ := h
      exact ⟨v, e1, v2, e2, p, ys, e3, e4, i, j, e5, e6, b, e7, m _ _ hq⟩
end
end SF

/-! ## WL -/
set_option Elab.async false
set_option maxRecDepth 100000
set_option maxHeartbeats 4000000
namespace SF
open PySem PySem.Spec PyProof.Rows L2
structure Facts (K : Frg) (mg : Str → Option Value) (cS cE cL cB tc_answer_way : Addr) : Prop where
  tx : Tx K mg cS cE cL cB
  i_Scale : InitOk K mg "Scale" cS "Scale.__init__" s_Scale___init__ ["self", "axis", "start", "sign"]
  t_Scale_place : MethOk K cS "place" "Scale.place" s_Scale_place ["self", "coordinate"]
  i_Edge : InitOk K mg "Edge" cE "Edge.__init__" s_Edge___init__ ["self", "across", "where", "low", "high"]
  i_LaidRow : InitOk K mg "LaidRow" cL "LaidRow.__init__" s_LaidRow___init__ ["self", "row", "first", "last", "edges"]
  d_axis_of : DefOk K mg "axis_of" s_axis_of ["face"]
  d_side_of : DefOk K mg "side_of" s_side_of ["face"]
  d_height_of : DefOk K mg "height_of" s_height_of ["lengths", "face"]
  d_faces_at : DefOk K mg "faces_at" s_faces_at ["lengths", "point"]
  d_points_on : DefOk K mg "points_on" s_points_on ["lengths"]
  d_can_follow : DefOk K mg "can_follow" s_can_follow ["row", "face"]
  d_is_row : DefOk K mg "is_row" s_is_row ["faces"]
  d_first_scales : DefOk K mg "first_scales" s_first_scales ["face"]
  d_coordinate_across : DefOk K mg "coordinate_across" s_coordinate_across ["scales", "face"]
  d_edge_towards : DefOk K mg "edge_towards" s_edge_towards ["lengths", "scales", "face"]
  d_scales_beyond : DefOk K mg "scales_beyond" s_scales_beyond ["lengths", "scales", "face", "following"]
  d_laid_alone : DefOk K mg "laid_alone" s_laid_alone ["face"]
  d_laid_on : DefOk K mg "laid_on" s_laid_on ["lengths", "laid", "face"]
  d_lay : DefOk K mg "lay" s_lay ["lengths", "row"]
  d_laid_beginning : DefOk K mg "laid_beginning" s_laid_beginning ["lengths", "laid"]
  d_laid_from : DefOk K mg "laid_from" s_laid_from ["lengths", "faces"]
  d_spot_of : DefOk K mg "spot_of" s_spot_of ["scales", "point"]
  d_goes_through : DefOk K mg "goes_through" s_goes_through ["begin", "finish", "edge"]
  d_square_over : DefOk K mg "square_over" s_square_over ["laid", "start", "end"]
  d_is_straight_way : DefOk K mg "is_straight_way" s_is_straight_way ["laid", "start", "end"]
  d_shortest_square : DefOk K mg "shortest_square" s_shortest_square ["laid_rows", "start", "end"]
  i_Box : InitOk K mg "Box" cB "Box.__init__" s_Box___init__ ["self"]
  d_told_list : DefOk K mg "told_list" s_told_list ["numbers"]
  d_answer_begins : DefOk K mg "answer_begins" s_answer_begins ["box", "lengths"]
  d_answer_spider : DefOk K mg "answer_spider" s_answer_spider ["box", "point"]
  d_answer_fly : DefOk K mg "answer_fly" s_answer_fly ["box", "point"]
  d_spider_faces : DefOk K mg "spider_faces" s_spider_faces ["box"]
  d_fly_faces : DefOk K mg "fly_faces" s_fly_faces ["box"]
  d_straight_ways : DefOk K mg "straight_ways" s_straight_ways ["box"]
  d_answer_way : DefOkC K mg "answer_way" s_answer_way ["box", "nothing"] tc_answer_way
  d_joins : DefOk K mg "joins" s_joins ["box", "row"]
  d_answer_over : DefOk K mg "answer_over" s_answer_over ["box", "faces"]
  d_answer_many : DefOk K mg "answer_many" s_answer_many ["box", "nothing"]
  d_answer_straight : DefOk K mg "answer_straight" s_answer_straight ["box", "nothing"]
  d_may_be_searched : DefOk K mg "may_be_searched" s_may_be_searched ["box"]
  d_squares_from_spider : DefOk K mg "squares_from_spider" s_squares_from_spider ["box"]
  d_answer_farthest : DefOk K mg "answer_farthest" s_answer_farthest ["box", "nothing"]
  d_answer_within : DefOk K mg "answer_within" s_answer_within ["box", "handed"]
  d_answer_faces : DefOk K mg "answer_faces" s_answer_faces ["box", "nothing"]
  d_answer_state : DefOk K mg "answer_state" s_answer_state ["box", "nothing"]
  d_numbers_from : DefOk K mg "numbers_from" s_numbers_from ["calls", "place"]
  d_call_end : DefOk K mg "call_end" s_call_end ["calls", "place"]
  d_answers : DefOk K mg "answers" s_answers ["calls"]
theorem facts_mk {K : Frg} {h : Heap} {mg : Str → Option Value} {cS cE cL cB : Addr} (X : K.In h) (G : h.Ns mainGlobals mg)
    {f_Scale___init__ : Addr} {od_Scale___init__ an_Scale___init__ : Option Addr} {sl_Scale___init__ : Array (Option Value)} {oc_Scale___init__ kV_Scale___init__ dc_Scale___init__ pm_Scale___init__ cd_Scale___init__ ct_Scale___init__ : Value}
    {f_Scale_place : Addr} {od_Scale_place an_Scale_place : Option Addr} {sl_Scale_place : Array (Option Value)} {oc_Scale_place kV_Scale_place dc_Scale_place pm_Scale_place cd_Scale_place ct_Scale_place : Value}
    {f_Edge___init__ : Addr} {od_Edge___init__ an_Edge___init__ : Option Addr} {sl_Edge___init__ : Array (Option Value)} {oc_Edge___init__ kV_Edge___init__ dc_Edge___init__ pm_Edge___init__ cd_Edge___init__ ct_Edge___init__ : Value}
    {f_LaidRow___init__ : Addr} {od_LaidRow___init__ an_LaidRow___init__ : Option Addr} {sl_LaidRow___init__ : Array (Option Value)} {oc_LaidRow___init__ kV_LaidRow___init__ dc_LaidRow___init__ pm_LaidRow___init__ cd_LaidRow___init__ ct_LaidRow___init__ : Value}
    {f_axis_of : Addr} {od_axis_of an_axis_of : Option Addr} {sl_axis_of : Array (Option Value)} {oc_axis_of kV_axis_of dc_axis_of pm_axis_of cd_axis_of ct_axis_of : Value}
    {f_side_of : Addr} {od_side_of an_side_of : Option Addr} {sl_side_of : Array (Option Value)} {oc_side_of kV_side_of dc_side_of pm_side_of cd_side_of ct_side_of : Value}
    {f_height_of : Addr} {od_height_of an_height_of : Option Addr} {sl_height_of : Array (Option Value)} {oc_height_of kV_height_of dc_height_of pm_height_of cd_height_of ct_height_of : Value}
    {f_faces_at : Addr} {od_faces_at an_faces_at : Option Addr} {sl_faces_at : Array (Option Value)} {oc_faces_at kV_faces_at dc_faces_at pm_faces_at cd_faces_at ct_faces_at : Value}
    {f_points_on : Addr} {od_points_on an_points_on : Option Addr} {sl_points_on : Array (Option Value)} {oc_points_on kV_points_on dc_points_on pm_points_on cd_points_on ct_points_on : Value}
    {f_can_follow : Addr} {od_can_follow an_can_follow : Option Addr} {sl_can_follow : Array (Option Value)} {oc_can_follow kV_can_follow dc_can_follow pm_can_follow cd_can_follow ct_can_follow : Value}
    {f_is_row : Addr} {od_is_row an_is_row : Option Addr} {sl_is_row : Array (Option Value)} {oc_is_row kV_is_row dc_is_row pm_is_row cd_is_row ct_is_row : Value}
    {f_first_scales : Addr} {od_first_scales an_first_scales : Option Addr} {sl_first_scales : Array (Option Value)} {oc_first_scales kV_first_scales dc_first_scales pm_first_scales cd_first_scales ct_first_scales : Value}
    {f_coordinate_across : Addr} {od_coordinate_across an_coordinate_across : Option Addr} {sl_coordinate_across : Array (Option Value)} {oc_coordinate_across kV_coordinate_across dc_coordinate_across pm_coordinate_across cd_coordinate_across ct_coordinate_across : Value}
    {f_edge_towards : Addr} {od_edge_towards an_edge_towards : Option Addr} {sl_edge_towards : Array (Option Value)} {oc_edge_towards kV_edge_towards dc_edge_towards pm_edge_towards cd_edge_towards ct_edge_towards : Value}
    {f_scales_beyond : Addr} {od_scales_beyond an_scales_beyond : Option Addr} {sl_scales_beyond : Array (Option Value)} {oc_scales_beyond kV_scales_beyond dc_scales_beyond pm_scales_beyond cd_scales_beyond ct_scales_beyond : Value}
    {f_laid_alone : Addr} {od_laid_alone an_laid_alone : Option Addr} {sl_laid_alone : Array (Option Value)} {oc_laid_alone kV_laid_alone dc_laid_alone pm_laid_alone cd_laid_alone ct_laid_alone : Value}
    {f_laid_on : Addr} {od_laid_on an_laid_on : Option Addr} {sl_laid_on : Array (Option Value)} {oc_laid_on kV_laid_on dc_laid_on pm_laid_on cd_laid_on ct_laid_on : Value}
    {f_lay : Addr} {od_lay an_lay : Option Addr} {sl_lay : Array (Option Value)} {oc_lay kV_lay dc_lay pm_lay cd_lay ct_lay : Value}
    {f_laid_beginning : Addr} {od_laid_beginning an_laid_beginning : Option Addr} {sl_laid_beginning : Array (Option Value)} {oc_laid_beginning kV_laid_beginning dc_laid_beginning pm_laid_beginning cd_laid_beginning ct_laid_beginning : Value}
    {f_laid_from : Addr} {od_laid_from an_laid_from : Option Addr} {sl_laid_from : Array (Option Value)} {oc_laid_from kV_laid_from dc_laid_from pm_laid_from cd_laid_from ct_laid_from : Value}
    {f_spot_of : Addr} {od_spot_of an_spot_of : Option Addr} {sl_spot_of : Array (Option Value)} {oc_spot_of kV_spot_of dc_spot_of pm_spot_of cd_spot_of ct_spot_of : Value}
    {f_goes_through : Addr} {od_goes_through an_goes_through : Option Addr} {sl_goes_through : Array (Option Value)} {oc_goes_through kV_goes_through dc_goes_through pm_goes_through cd_goes_through ct_goes_through : Value}
    {f_square_over : Addr} {od_square_over an_square_over : Option Addr} {sl_square_over : Array (Option Value)} {oc_square_over kV_square_over dc_square_over pm_square_over cd_square_over ct_square_over : Value}
    {f_is_straight_way : Addr} {od_is_straight_way an_is_straight_way : Option Addr} {sl_is_straight_way : Array (Option Value)} {oc_is_straight_way kV_is_straight_way dc_is_straight_way pm_is_straight_way cd_is_straight_way ct_is_straight_way : Value}
    {f_shortest_square : Addr} {od_shortest_square an_shortest_square : Option Addr} {sl_shortest_square : Array (Option Value)} {oc_shortest_square kV_shortest_square dc_shortest_square pm_shortest_square cd_shortest_square ct_shortest_square : Value}
    {f_Box___init__ : Addr} {od_Box___init__ an_Box___init__ : Option Addr} {sl_Box___init__ : Array (Option Value)} {oc_Box___init__ kV_Box___init__ dc_Box___init__ pm_Box___init__ cd_Box___init__ ct_Box___init__ : Value}
    {f_told_list : Addr} {od_told_list an_told_list : Option Addr} {sl_told_list : Array (Option Value)} {oc_told_list kV_told_list dc_told_list pm_told_list cd_told_list ct_told_list : Value}
    {f_answer_begins : Addr} {od_answer_begins an_answer_begins : Option Addr} {sl_answer_begins : Array (Option Value)} {oc_answer_begins kV_answer_begins dc_answer_begins pm_answer_begins cd_answer_begins ct_answer_begins : Value}
    {f_answer_spider : Addr} {od_answer_spider an_answer_spider : Option Addr} {sl_answer_spider : Array (Option Value)} {oc_answer_spider kV_answer_spider dc_answer_spider pm_answer_spider cd_answer_spider ct_answer_spider : Value}
    {f_answer_fly : Addr} {od_answer_fly an_answer_fly : Option Addr} {sl_answer_fly : Array (Option Value)} {oc_answer_fly kV_answer_fly dc_answer_fly pm_answer_fly cd_answer_fly ct_answer_fly : Value}
    {f_spider_faces : Addr} {od_spider_faces an_spider_faces : Option Addr} {sl_spider_faces : Array (Option Value)} {oc_spider_faces kV_spider_faces dc_spider_faces pm_spider_faces cd_spider_faces ct_spider_faces : Value}
    {f_fly_faces : Addr} {od_fly_faces an_fly_faces : Option Addr} {sl_fly_faces : Array (Option Value)} {oc_fly_faces kV_fly_faces dc_fly_faces pm_fly_faces cd_fly_faces ct_fly_faces : Value}
    {f_straight_ways : Addr} {od_straight_ways an_straight_ways : Option Addr} {sl_straight_ways : Array (Option Value)} {oc_straight_ways kV_straight_ways dc_straight_ways pm_straight_ways cd_straight_ways ct_straight_ways : Value}
    {f_answer_way tc_answer_way : Addr} {od_answer_way an_answer_way : Option Addr} {sl_answer_way : Array (Option Value)} {oc_answer_way kV_answer_way dc_answer_way pm_answer_way ct_answer_way : Value}
    {f_joins : Addr} {od_joins an_joins : Option Addr} {sl_joins : Array (Option Value)} {oc_joins kV_joins dc_joins pm_joins cd_joins ct_joins : Value}
    {f_answer_over : Addr} {od_answer_over an_answer_over : Option Addr} {sl_answer_over : Array (Option Value)} {oc_answer_over kV_answer_over dc_answer_over pm_answer_over cd_answer_over ct_answer_over : Value}
    {f_answer_many : Addr} {od_answer_many an_answer_many : Option Addr} {sl_answer_many : Array (Option Value)} {oc_answer_many kV_answer_many dc_answer_many pm_answer_many cd_answer_many ct_answer_many : Value}
    {f_answer_straight : Addr} {od_answer_straight an_answer_straight : Option Addr} {sl_answer_straight : Array (Option Value)} {oc_answer_straight kV_answer_straight dc_answer_straight pm_answer_straight cd_answer_straight ct_answer_straight : Value}
    {f_may_be_searched : Addr} {od_may_be_searched an_may_be_searched : Option Addr} {sl_may_be_searched : Array (Option Value)} {oc_may_be_searched kV_may_be_searched dc_may_be_searched pm_may_be_searched cd_may_be_searched ct_may_be_searched : Value}
    {f_squares_from_spider : Addr} {od_squares_from_spider an_squares_from_spider : Option Addr} {sl_squares_from_spider : Array (Option Value)} {oc_squares_from_spider kV_squares_from_spider dc_squares_from_spider pm_squares_from_spider cd_squares_from_spider ct_squares_from_spider : Value}
    {f_answer_farthest : Addr} {od_answer_farthest an_answer_farthest : Option Addr} {sl_answer_farthest : Array (Option Value)} {oc_answer_farthest kV_answer_farthest dc_answer_farthest pm_answer_farthest cd_answer_farthest ct_answer_farthest : Value}
    {f_answer_within : Addr} {od_answer_within an_answer_within : Option Addr} {sl_answer_within : Array (Option Value)} {oc_answer_within kV_answer_within dc_answer_within pm_answer_within cd_answer_within ct_answer_within : Value}
    {f_answer_faces : Addr} {od_answer_faces an_answer_faces : Option Addr} {sl_answer_faces : Array (Option Value)} {oc_answer_faces kV_answer_faces dc_answer_faces pm_answer_faces cd_answer_faces ct_answer_faces : Value}
    {f_answer_state : Addr} {od_answer_state an_answer_state : Option Addr} {sl_answer_state : Array (Option Value)} {oc_answer_state kV_answer_state dc_answer_state pm_answer_state cd_answer_state ct_answer_state : Value}
    {f_numbers_from : Addr} {od_numbers_from an_numbers_from : Option Addr} {sl_numbers_from : Array (Option Value)} {oc_numbers_from kV_numbers_from dc_numbers_from pm_numbers_from cd_numbers_from ct_numbers_from : Value}
    {f_call_end : Addr} {od_call_end an_call_end : Option Addr} {sl_call_end : Array (Option Value)} {oc_call_end kV_call_end dc_call_end pm_call_end cd_call_end ct_call_end : Value}
    {f_answers : Addr} {od_answers an_answers : Option Addr} {sl_answers : Array (Option Value)} {oc_answers kV_answers dc_answers pm_answers cd_answers ct_answers : Value}
    {t_AXES : Tok}
    {t_FACES : Tok}
    {t_LONGEST : Tok}
    {t_LONGEST_SEARCHED : Tok}
    {t_BEGINS : Tok}
    {t_SPIDER : Tok}
    {t_FLY : Tok}
    {t_OVER : Tok}
    {t_WITHIN : Tok}
    (acS : PySem.W.nsIn K mainGlobals "Scale" = some (some (.ref cS)))
    (pgcS : PySem.W.plainGet K cS Str.empty = true)
    (hdcS : PySem.W.hasDictIn K cS = true)
    (pocS : PySem.W.plainOver K cS = true)
    (sacS : PySem.W.findIn K (.ref cS) "__setattr__" = some (some (.builtin "object.__setattr__")))
    (mkcS : PySem.W.makesIn K cS = true)
    (kccS : PySem.W.keepIn K (.ref cS) = true)
    (ncS_axis : PySem.W.findIn K (.ref cS) "axis" = some none)
    (ncS_start : PySem.W.findIn K (.ref cS) "start" = some none)
    (ncS_sign : PySem.W.findIn K (.ref cS) "sign" = some none)
    (acE : PySem.W.nsIn K mainGlobals "Edge" = some (some (.ref cE)))
    (pgcE : PySem.W.plainGet K cE Str.empty = true)
    (hdcE : PySem.W.hasDictIn K cE = true)
    (pocE : PySem.W.plainOver K cE = true)
    (sacE : PySem.W.findIn K (.ref cE) "__setattr__" = some (some (.builtin "object.__setattr__")))
    (mkcE : PySem.W.makesIn K cE = true)
    (kccE : PySem.W.keepIn K (.ref cE) = true)
    (ncE_across : PySem.W.findIn K (.ref cE) "across" = some none)
    (ncE_where : PySem.W.findIn K (.ref cE) "where" = some none)
    (ncE_low : PySem.W.findIn K (.ref cE) "low" = some none)
    (ncE_high : PySem.W.findIn K (.ref cE) "high" = some none)
    (acL : PySem.W.nsIn K mainGlobals "LaidRow" = some (some (.ref cL)))
    (pgcL : PySem.W.plainGet K cL Str.empty = true)
    (hdcL : PySem.W.hasDictIn K cL = true)
    (pocL : PySem.W.plainOver K cL = true)
    (sacL : PySem.W.findIn K (.ref cL) "__setattr__" = some (some (.builtin "object.__setattr__")))
    (mkcL : PySem.W.makesIn K cL = true)
    (kccL : PySem.W.keepIn K (.ref cL) = true)
    (ncL_row : PySem.W.findIn K (.ref cL) "row" = some none)
    (ncL_first : PySem.W.findIn K (.ref cL) "first" = some none)
    (ncL_last : PySem.W.findIn K (.ref cL) "last" = some none)
    (ncL_edges : PySem.W.findIn K (.ref cL) "edges" = some none)
    (acB : PySem.W.nsIn K mainGlobals "Box" = some (some (.ref cB)))
    (pgcB : PySem.W.plainGet K cB Str.empty = true)
    (hdcB : PySem.W.hasDictIn K cB = true)
    (pocB : PySem.W.plainOver K cB = true)
    (sacB : PySem.W.findIn K (.ref cB) "__setattr__" = some (some (.builtin "object.__setattr__")))
    (mkcB : PySem.W.makesIn K cB = true)
    (kccB : PySem.W.keepIn K (.ref cB) = true)
    (ncB_lengths : PySem.W.findIn K (.ref cB) "lengths" = some none)
    (ncB_spider : PySem.W.findIn K (.ref cB) "spider" = some none)
    (ncB_fly : PySem.W.findIn K (.ref cB) "fly" = some none)
    (a_Scale___init__ : PySem.W.findIn K (.ref cS) "__init__" = some (some (.ref f_Scale___init__)))
    (i_Scale___init__ : PySem.W.isFn K (.ref f_Scale___init__) = true)
    (l_Scale___init__ : K.lookup f_Scale___init__ = some ⟨oc_Scale___init__, od_Scale___init__, .func (PySem.W.fnOf "__init__" "Scale.__init__" (C8.fnArgs s_Scale___init__) (C8.fnBody s_Scale___init__) (C8.fnScope s_Scale___init__) .none kV_Scale___init__ dc_Scale___init__ pm_Scale___init__ an_Scale___init__ cd_Scale___init__ ct_Scale___init__), sl_Scale___init__⟩)
    (c_Scale___init__ : PySem.W.codeIn K cd_Scale___init__ "Scale.__init__" = true)
    (k_Scale___init__ : PySem.W.keepIn K (.ref f_Scale___init__) = true)
    (a_Scale_place : PySem.W.findIn K (.ref cS) "place" = some (some (.ref f_Scale_place)))
    (i_Scale_place : PySem.W.isFn K (.ref f_Scale_place) = true)
    (l_Scale_place : K.lookup f_Scale_place = some ⟨oc_Scale_place, od_Scale_place, .func (PySem.W.fnOf "place" "Scale.place" (C8.fnArgs s_Scale_place) (C8.fnBody s_Scale_place) (C8.fnScope s_Scale_place) .none kV_Scale_place dc_Scale_place pm_Scale_place an_Scale_place cd_Scale_place ct_Scale_place), sl_Scale_place⟩)
    (c_Scale_place : PySem.W.codeIn K cd_Scale_place "Scale.place" = true)
    (k_Scale_place : PySem.W.keepIn K (.ref f_Scale_place) = true)
    (a_Edge___init__ : PySem.W.findIn K (.ref cE) "__init__" = some (some (.ref f_Edge___init__)))
    (i_Edge___init__ : PySem.W.isFn K (.ref f_Edge___init__) = true)
    (l_Edge___init__ : K.lookup f_Edge___init__ = some ⟨oc_Edge___init__, od_Edge___init__, .func (PySem.W.fnOf "__init__" "Edge.__init__" (C8.fnArgs s_Edge___init__) (C8.fnBody s_Edge___init__) (C8.fnScope s_Edge___init__) .none kV_Edge___init__ dc_Edge___init__ pm_Edge___init__ an_Edge___init__ cd_Edge___init__ ct_Edge___init__), sl_Edge___init__⟩)
    (c_Edge___init__ : PySem.W.codeIn K cd_Edge___init__ "Edge.__init__" = true)
    (k_Edge___init__ : PySem.W.keepIn K (.ref f_Edge___init__) = true)
    (a_LaidRow___init__ : PySem.W.findIn K (.ref cL) "__init__" = some (some (.ref f_LaidRow___init__)))
    (i_LaidRow___init__ : PySem.W.isFn K (.ref f_LaidRow___init__) = true)
    (l_LaidRow___init__ : K.lookup f_LaidRow___init__ = some ⟨oc_LaidRow___init__, od_LaidRow___init__, .func (PySem.W.fnOf "__init__" "LaidRow.__init__" (C8.fnArgs s_LaidRow___init__) (C8.fnBody s_LaidRow___init__) (C8.fnScope s_LaidRow___init__) .none kV_LaidRow___init__ dc_LaidRow___init__ pm_LaidRow___init__ an_LaidRow___init__ cd_LaidRow___init__ ct_LaidRow___init__), sl_LaidRow___init__⟩)
    (c_LaidRow___init__ : PySem.W.codeIn K cd_LaidRow___init__ "LaidRow.__init__" = true)
    (k_LaidRow___init__ : PySem.W.keepIn K (.ref f_LaidRow___init__) = true)
    (a_axis_of : PySem.W.nsIn K mainGlobals "axis_of" = some (some (.ref f_axis_of)))
    (l_axis_of : K.lookup f_axis_of = some ⟨oc_axis_of, od_axis_of, .func (PySem.W.fnOf "axis_of" "axis_of" (C8.fnArgs s_axis_of) (C8.fnBody s_axis_of) (C8.fnScope s_axis_of) .none kV_axis_of dc_axis_of pm_axis_of an_axis_of cd_axis_of ct_axis_of), sl_axis_of⟩)
    (c_axis_of : PySem.W.codeIn K cd_axis_of "axis_of" = true)
    (k_axis_of : PySem.W.keepIn K (.ref f_axis_of) = true)
    (a_side_of : PySem.W.nsIn K mainGlobals "side_of" = some (some (.ref f_side_of)))
    (l_side_of : K.lookup f_side_of = some ⟨oc_side_of, od_side_of, .func (PySem.W.fnOf "side_of" "side_of" (C8.fnArgs s_side_of) (C8.fnBody s_side_of) (C8.fnScope s_side_of) .none kV_side_of dc_side_of pm_side_of an_side_of cd_side_of ct_side_of), sl_side_of⟩)
    (c_side_of : PySem.W.codeIn K cd_side_of "side_of" = true)
    (k_side_of : PySem.W.keepIn K (.ref f_side_of) = true)
    (a_height_of : PySem.W.nsIn K mainGlobals "height_of" = some (some (.ref f_height_of)))
    (l_height_of : K.lookup f_height_of = some ⟨oc_height_of, od_height_of, .func (PySem.W.fnOf "height_of" "height_of" (C8.fnArgs s_height_of) (C8.fnBody s_height_of) (C8.fnScope s_height_of) .none kV_height_of dc_height_of pm_height_of an_height_of cd_height_of ct_height_of), sl_height_of⟩)
    (c_height_of : PySem.W.codeIn K cd_height_of "height_of" = true)
    (k_height_of : PySem.W.keepIn K (.ref f_height_of) = true)
    (a_faces_at : PySem.W.nsIn K mainGlobals "faces_at" = some (some (.ref f_faces_at)))
    (l_faces_at : K.lookup f_faces_at = some ⟨oc_faces_at, od_faces_at, .func (PySem.W.fnOf "faces_at" "faces_at" (C8.fnArgs s_faces_at) (C8.fnBody s_faces_at) (C8.fnScope s_faces_at) .none kV_faces_at dc_faces_at pm_faces_at an_faces_at cd_faces_at ct_faces_at), sl_faces_at⟩)
    (c_faces_at : PySem.W.codeIn K cd_faces_at "faces_at" = true)
    (k_faces_at : PySem.W.keepIn K (.ref f_faces_at) = true)
    (a_points_on : PySem.W.nsIn K mainGlobals "points_on" = some (some (.ref f_points_on)))
    (l_points_on : K.lookup f_points_on = some ⟨oc_points_on, od_points_on, .func (PySem.W.fnOf "points_on" "points_on" (C8.fnArgs s_points_on) (C8.fnBody s_points_on) (C8.fnScope s_points_on) .none kV_points_on dc_points_on pm_points_on an_points_on cd_points_on ct_points_on), sl_points_on⟩)
    (c_points_on : PySem.W.codeIn K cd_points_on "points_on" = true)
    (k_points_on : PySem.W.keepIn K (.ref f_points_on) = true)
    (a_can_follow : PySem.W.nsIn K mainGlobals "can_follow" = some (some (.ref f_can_follow)))
    (l_can_follow : K.lookup f_can_follow = some ⟨oc_can_follow, od_can_follow, .func (PySem.W.fnOf "can_follow" "can_follow" (C8.fnArgs s_can_follow) (C8.fnBody s_can_follow) (C8.fnScope s_can_follow) .none kV_can_follow dc_can_follow pm_can_follow an_can_follow cd_can_follow ct_can_follow), sl_can_follow⟩)
    (c_can_follow : PySem.W.codeIn K cd_can_follow "can_follow" = true)
    (k_can_follow : PySem.W.keepIn K (.ref f_can_follow) = true)
    (a_is_row : PySem.W.nsIn K mainGlobals "is_row" = some (some (.ref f_is_row)))
    (l_is_row : K.lookup f_is_row = some ⟨oc_is_row, od_is_row, .func (PySem.W.fnOf "is_row" "is_row" (C8.fnArgs s_is_row) (C8.fnBody s_is_row) (C8.fnScope s_is_row) .none kV_is_row dc_is_row pm_is_row an_is_row cd_is_row ct_is_row), sl_is_row⟩)
    (c_is_row : PySem.W.codeIn K cd_is_row "is_row" = true)
    (k_is_row : PySem.W.keepIn K (.ref f_is_row) = true)
    (a_first_scales : PySem.W.nsIn K mainGlobals "first_scales" = some (some (.ref f_first_scales)))
    (l_first_scales : K.lookup f_first_scales = some ⟨oc_first_scales, od_first_scales, .func (PySem.W.fnOf "first_scales" "first_scales" (C8.fnArgs s_first_scales) (C8.fnBody s_first_scales) (C8.fnScope s_first_scales) .none kV_first_scales dc_first_scales pm_first_scales an_first_scales cd_first_scales ct_first_scales), sl_first_scales⟩)
    (c_first_scales : PySem.W.codeIn K cd_first_scales "first_scales" = true)
    (k_first_scales : PySem.W.keepIn K (.ref f_first_scales) = true)
    (a_coordinate_across : PySem.W.nsIn K mainGlobals "coordinate_across" = some (some (.ref f_coordinate_across)))
    (l_coordinate_across : K.lookup f_coordinate_across = some ⟨oc_coordinate_across, od_coordinate_across, .func (PySem.W.fnOf "coordinate_across" "coordinate_across" (C8.fnArgs s_coordinate_across) (C8.fnBody s_coordinate_across) (C8.fnScope s_coordinate_across) .none kV_coordinate_across dc_coordinate_across pm_coordinate_across an_coordinate_across cd_coordinate_across ct_coordinate_across), sl_coordinate_across⟩)
    (c_coordinate_across : PySem.W.codeIn K cd_coordinate_across "coordinate_across" = true)
    (k_coordinate_across : PySem.W.keepIn K (.ref f_coordinate_across) = true)
    (a_edge_towards : PySem.W.nsIn K mainGlobals "edge_towards" = some (some (.ref f_edge_towards)))
    (l_edge_towards : K.lookup f_edge_towards = some ⟨oc_edge_towards, od_edge_towards, .func (PySem.W.fnOf "edge_towards" "edge_towards" (C8.fnArgs s_edge_towards) (C8.fnBody s_edge_towards) (C8.fnScope s_edge_towards) .none kV_edge_towards dc_edge_towards pm_edge_towards an_edge_towards cd_edge_towards ct_edge_towards), sl_edge_towards⟩)
    (c_edge_towards : PySem.W.codeIn K cd_edge_towards "edge_towards" = true)
    (k_edge_towards : PySem.W.keepIn K (.ref f_edge_towards) = true)
    (a_scales_beyond : PySem.W.nsIn K mainGlobals "scales_beyond" = some (some (.ref f_scales_beyond)))
    (l_scales_beyond : K.lookup f_scales_beyond = some ⟨oc_scales_beyond, od_scales_beyond, .func (PySem.W.fnOf "scales_beyond" "scales_beyond" (C8.fnArgs s_scales_beyond) (C8.fnBody s_scales_beyond) (C8.fnScope s_scales_beyond) .none kV_scales_beyond dc_scales_beyond pm_scales_beyond an_scales_beyond cd_scales_beyond ct_scales_beyond), sl_scales_beyond⟩)
    (c_scales_beyond : PySem.W.codeIn K cd_scales_beyond "scales_beyond" = true)
    (k_scales_beyond : PySem.W.keepIn K (.ref f_scales_beyond) = true)
    (a_laid_alone : PySem.W.nsIn K mainGlobals "laid_alone" = some (some (.ref f_laid_alone)))
    (l_laid_alone : K.lookup f_laid_alone = some ⟨oc_laid_alone, od_laid_alone, .func (PySem.W.fnOf "laid_alone" "laid_alone" (C8.fnArgs s_laid_alone) (C8.fnBody s_laid_alone) (C8.fnScope s_laid_alone) .none kV_laid_alone dc_laid_alone pm_laid_alone an_laid_alone cd_laid_alone ct_laid_alone), sl_laid_alone⟩)
    (c_laid_alone : PySem.W.codeIn K cd_laid_alone "laid_alone" = true)
    (k_laid_alone : PySem.W.keepIn K (.ref f_laid_alone) = true)
    (a_laid_on : PySem.W.nsIn K mainGlobals "laid_on" = some (some (.ref f_laid_on)))
    (l_laid_on : K.lookup f_laid_on = some ⟨oc_laid_on, od_laid_on, .func (PySem.W.fnOf "laid_on" "laid_on" (C8.fnArgs s_laid_on) (C8.fnBody s_laid_on) (C8.fnScope s_laid_on) .none kV_laid_on dc_laid_on pm_laid_on an_laid_on cd_laid_on ct_laid_on), sl_laid_on⟩)
    (c_laid_on : PySem.W.codeIn K cd_laid_on "laid_on" = true)
    (k_laid_on : PySem.W.keepIn K (.ref f_laid_on) = true)
    (a_lay : PySem.W.nsIn K mainGlobals "lay" = some (some (.ref f_lay)))
    (l_lay : K.lookup f_lay = some ⟨oc_lay, od_lay, .func (PySem.W.fnOf "lay" "lay" (C8.fnArgs s_lay) (C8.fnBody s_lay) (C8.fnScope s_lay) .none kV_lay dc_lay pm_lay an_lay cd_lay ct_lay), sl_lay⟩)
    (c_lay : PySem.W.codeIn K cd_lay "lay" = true)
    (k_lay : PySem.W.keepIn K (.ref f_lay) = true)
    (a_laid_beginning : PySem.W.nsIn K mainGlobals "laid_beginning" = some (some (.ref f_laid_beginning)))
    (l_laid_beginning : K.lookup f_laid_beginning = some ⟨oc_laid_beginning, od_laid_beginning, .func (PySem.W.fnOf "laid_beginning" "laid_beginning" (C8.fnArgs s_laid_beginning) (C8.fnBody s_laid_beginning) (C8.fnScope s_laid_beginning) .none kV_laid_beginning dc_laid_beginning pm_laid_beginning an_laid_beginning cd_laid_beginning ct_laid_beginning), sl_laid_beginning⟩)
    (c_laid_beginning : PySem.W.codeIn K cd_laid_beginning "laid_beginning" = true)
    (k_laid_beginning : PySem.W.keepIn K (.ref f_laid_beginning) = true)
    (a_laid_from : PySem.W.nsIn K mainGlobals "laid_from" = some (some (.ref f_laid_from)))
    (l_laid_from : K.lookup f_laid_from = some ⟨oc_laid_from, od_laid_from, .func (PySem.W.fnOf "laid_from" "laid_from" (C8.fnArgs s_laid_from) (C8.fnBody s_laid_from) (C8.fnScope s_laid_from) .none kV_laid_from dc_laid_from pm_laid_from an_laid_from cd_laid_from ct_laid_from), sl_laid_from⟩)
    (c_laid_from : PySem.W.codeIn K cd_laid_from "laid_from" = true)
    (k_laid_from : PySem.W.keepIn K (.ref f_laid_from) = true)
    (a_spot_of : PySem.W.nsIn K mainGlobals "spot_of" = some (some (.ref f_spot_of)))
    (l_spot_of : K.lookup f_spot_of = some ⟨oc_spot_of, od_spot_of, .func (PySem.W.fnOf "spot_of" "spot_of" (C8.fnArgs s_spot_of) (C8.fnBody s_spot_of) (C8.fnScope s_spot_of) .none kV_spot_of dc_spot_of pm_spot_of an_spot_of cd_spot_of ct_spot_of), sl_spot_of⟩)
    (c_spot_of : PySem.W.codeIn K cd_spot_of "spot_of" = true)
    (k_spot_of : PySem.W.keepIn K (.ref f_spot_of) = true)
    (a_goes_through : PySem.W.nsIn K mainGlobals "goes_through" = some (some (.ref f_goes_through)))
    (l_goes_through : K.lookup f_goes_through = some ⟨oc_goes_through, od_goes_through, .func (PySem.W.fnOf "goes_through" "goes_through" (C8.fnArgs s_goes_through) (C8.fnBody s_goes_through) (C8.fnScope s_goes_through) .none kV_goes_through dc_goes_through pm_goes_through an_goes_through cd_goes_through ct_goes_through), sl_goes_through⟩)
    (c_goes_through : PySem.W.codeIn K cd_goes_through "goes_through" = true)
    (k_goes_through : PySem.W.keepIn K (.ref f_goes_through) = true)
    (a_square_over : PySem.W.nsIn K mainGlobals "square_over" = some (some (.ref f_square_over)))
    (l_square_over : K.lookup f_square_over = some ⟨oc_square_over, od_square_over, .func (PySem.W.fnOf "square_over" "square_over" (C8.fnArgs s_square_over) (C8.fnBody s_square_over) (C8.fnScope s_square_over) .none kV_square_over dc_square_over pm_square_over an_square_over cd_square_over ct_square_over), sl_square_over⟩)
    (c_square_over : PySem.W.codeIn K cd_square_over "square_over" = true)
    (k_square_over : PySem.W.keepIn K (.ref f_square_over) = true)
    (a_is_straight_way : PySem.W.nsIn K mainGlobals "is_straight_way" = some (some (.ref f_is_straight_way)))
    (l_is_straight_way : K.lookup f_is_straight_way = some ⟨oc_is_straight_way, od_is_straight_way, .func (PySem.W.fnOf "is_straight_way" "is_straight_way" (C8.fnArgs s_is_straight_way) (C8.fnBody s_is_straight_way) (C8.fnScope s_is_straight_way) .none kV_is_straight_way dc_is_straight_way pm_is_straight_way an_is_straight_way cd_is_straight_way ct_is_straight_way), sl_is_straight_way⟩)
    (c_is_straight_way : PySem.W.codeIn K cd_is_straight_way "is_straight_way" = true)
    (k_is_straight_way : PySem.W.keepIn K (.ref f_is_straight_way) = true)
    (a_shortest_square : PySem.W.nsIn K mainGlobals "shortest_square" = some (some (.ref f_shortest_square)))
    (l_shortest_square : K.lookup f_shortest_square = some ⟨oc_shortest_square, od_shortest_square, .func (PySem.W.fnOf "shortest_square" "shortest_square" (C8.fnArgs s_shortest_square) (C8.fnBody s_shortest_square) (C8.fnScope s_shortest_square) .none kV_shortest_square dc_shortest_square pm_shortest_square an_shortest_square cd_shortest_square ct_shortest_square), sl_shortest_square⟩)
    (c_shortest_square : PySem.W.codeIn K cd_shortest_square "shortest_square" = true)
    (k_shortest_square : PySem.W.keepIn K (.ref f_shortest_square) = true)
    (a_Box___init__ : PySem.W.findIn K (.ref cB) "__init__" = some (some (.ref f_Box___init__)))
    (i_Box___init__ : PySem.W.isFn K (.ref f_Box___init__) = true)
    (l_Box___init__ : K.lookup f_Box___init__ = some ⟨oc_Box___init__, od_Box___init__, .func (PySem.W.fnOf "__init__" "Box.__init__" (C8.fnArgs s_Box___init__) (C8.fnBody s_Box___init__) (C8.fnScope s_Box___init__) .none kV_Box___init__ dc_Box___init__ pm_Box___init__ an_Box___init__ cd_Box___init__ ct_Box___init__), sl_Box___init__⟩)
    (c_Box___init__ : PySem.W.codeIn K cd_Box___init__ "Box.__init__" = true)
    (k_Box___init__ : PySem.W.keepIn K (.ref f_Box___init__) = true)
    (a_told_list : PySem.W.nsIn K mainGlobals "told_list" = some (some (.ref f_told_list)))
    (l_told_list : K.lookup f_told_list = some ⟨oc_told_list, od_told_list, .func (PySem.W.fnOf "told_list" "told_list" (C8.fnArgs s_told_list) (C8.fnBody s_told_list) (C8.fnScope s_told_list) .none kV_told_list dc_told_list pm_told_list an_told_list cd_told_list ct_told_list), sl_told_list⟩)
    (c_told_list : PySem.W.codeIn K cd_told_list "told_list" = true)
    (k_told_list : PySem.W.keepIn K (.ref f_told_list) = true)
    (a_answer_begins : PySem.W.nsIn K mainGlobals "answer_begins" = some (some (.ref f_answer_begins)))
    (l_answer_begins : K.lookup f_answer_begins = some ⟨oc_answer_begins, od_answer_begins, .func (PySem.W.fnOf "answer_begins" "answer_begins" (C8.fnArgs s_answer_begins) (C8.fnBody s_answer_begins) (C8.fnScope s_answer_begins) .none kV_answer_begins dc_answer_begins pm_answer_begins an_answer_begins cd_answer_begins ct_answer_begins), sl_answer_begins⟩)
    (c_answer_begins : PySem.W.codeIn K cd_answer_begins "answer_begins" = true)
    (k_answer_begins : PySem.W.keepIn K (.ref f_answer_begins) = true)
    (a_answer_spider : PySem.W.nsIn K mainGlobals "answer_spider" = some (some (.ref f_answer_spider)))
    (l_answer_spider : K.lookup f_answer_spider = some ⟨oc_answer_spider, od_answer_spider, .func (PySem.W.fnOf "answer_spider" "answer_spider" (C8.fnArgs s_answer_spider) (C8.fnBody s_answer_spider) (C8.fnScope s_answer_spider) .none kV_answer_spider dc_answer_spider pm_answer_spider an_answer_spider cd_answer_spider ct_answer_spider), sl_answer_spider⟩)
    (c_answer_spider : PySem.W.codeIn K cd_answer_spider "answer_spider" = true)
    (k_answer_spider : PySem.W.keepIn K (.ref f_answer_spider) = true)
    (a_answer_fly : PySem.W.nsIn K mainGlobals "answer_fly" = some (some (.ref f_answer_fly)))
    (l_answer_fly : K.lookup f_answer_fly = some ⟨oc_answer_fly, od_answer_fly, .func (PySem.W.fnOf "answer_fly" "answer_fly" (C8.fnArgs s_answer_fly) (C8.fnBody s_answer_fly) (C8.fnScope s_answer_fly) .none kV_answer_fly dc_answer_fly pm_answer_fly an_answer_fly cd_answer_fly ct_answer_fly), sl_answer_fly⟩)
    (c_answer_fly : PySem.W.codeIn K cd_answer_fly "answer_fly" = true)
    (k_answer_fly : PySem.W.keepIn K (.ref f_answer_fly) = true)
    (a_spider_faces : PySem.W.nsIn K mainGlobals "spider_faces" = some (some (.ref f_spider_faces)))
    (l_spider_faces : K.lookup f_spider_faces = some ⟨oc_spider_faces, od_spider_faces, .func (PySem.W.fnOf "spider_faces" "spider_faces" (C8.fnArgs s_spider_faces) (C8.fnBody s_spider_faces) (C8.fnScope s_spider_faces) .none kV_spider_faces dc_spider_faces pm_spider_faces an_spider_faces cd_spider_faces ct_spider_faces), sl_spider_faces⟩)
    (c_spider_faces : PySem.W.codeIn K cd_spider_faces "spider_faces" = true)
    (k_spider_faces : PySem.W.keepIn K (.ref f_spider_faces) = true)
    (a_fly_faces : PySem.W.nsIn K mainGlobals "fly_faces" = some (some (.ref f_fly_faces)))
    (l_fly_faces : K.lookup f_fly_faces = some ⟨oc_fly_faces, od_fly_faces, .func (PySem.W.fnOf "fly_faces" "fly_faces" (C8.fnArgs s_fly_faces) (C8.fnBody s_fly_faces) (C8.fnScope s_fly_faces) .none kV_fly_faces dc_fly_faces pm_fly_faces an_fly_faces cd_fly_faces ct_fly_faces), sl_fly_faces⟩)
    (c_fly_faces : PySem.W.codeIn K cd_fly_faces "fly_faces" = true)
    (k_fly_faces : PySem.W.keepIn K (.ref f_fly_faces) = true)
    (a_straight_ways : PySem.W.nsIn K mainGlobals "straight_ways" = some (some (.ref f_straight_ways)))
    (l_straight_ways : K.lookup f_straight_ways = some ⟨oc_straight_ways, od_straight_ways, .func (PySem.W.fnOf "straight_ways" "straight_ways" (C8.fnArgs s_straight_ways) (C8.fnBody s_straight_ways) (C8.fnScope s_straight_ways) .none kV_straight_ways dc_straight_ways pm_straight_ways an_straight_ways cd_straight_ways ct_straight_ways), sl_straight_ways⟩)
    (c_straight_ways : PySem.W.codeIn K cd_straight_ways "straight_ways" = true)
    (k_straight_ways : PySem.W.keepIn K (.ref f_straight_ways) = true)
    (a_answer_way : PySem.W.nsIn K mainGlobals "answer_way" = some (some (.ref f_answer_way)))
    (l_answer_way : K.lookup f_answer_way = some ⟨oc_answer_way, od_answer_way, .func (PySem.W.fnOf "answer_way" "answer_way" (C8.fnArgs s_answer_way) (C8.fnBody s_answer_way) (C8.fnScope s_answer_way) .none kV_answer_way dc_answer_way pm_answer_way an_answer_way (.ref tc_answer_way) ct_answer_way), sl_answer_way⟩)
    (c_answer_way : PySem.W.codeIn K (.ref tc_answer_way) "answer_way" = true)
    (k_answer_way : PySem.W.keepIn K (.ref f_answer_way) = true)
    (a_joins : PySem.W.nsIn K mainGlobals "joins" = some (some (.ref f_joins)))
    (l_joins : K.lookup f_joins = some ⟨oc_joins, od_joins, .func (PySem.W.fnOf "joins" "joins" (C8.fnArgs s_joins) (C8.fnBody s_joins) (C8.fnScope s_joins) .none kV_joins dc_joins pm_joins an_joins cd_joins ct_joins), sl_joins⟩)
    (c_joins : PySem.W.codeIn K cd_joins "joins" = true)
    (k_joins : PySem.W.keepIn K (.ref f_joins) = true)
    (a_answer_over : PySem.W.nsIn K mainGlobals "answer_over" = some (some (.ref f_answer_over)))
    (l_answer_over : K.lookup f_answer_over = some ⟨oc_answer_over, od_answer_over, .func (PySem.W.fnOf "answer_over" "answer_over" (C8.fnArgs s_answer_over) (C8.fnBody s_answer_over) (C8.fnScope s_answer_over) .none kV_answer_over dc_answer_over pm_answer_over an_answer_over cd_answer_over ct_answer_over), sl_answer_over⟩)
    (c_answer_over : PySem.W.codeIn K cd_answer_over "answer_over" = true)
    (k_answer_over : PySem.W.keepIn K (.ref f_answer_over) = true)
    (a_answer_many : PySem.W.nsIn K mainGlobals "answer_many" = some (some (.ref f_answer_many)))
    (l_answer_many : K.lookup f_answer_many = some ⟨oc_answer_many, od_answer_many, .func (PySem.W.fnOf "answer_many" "answer_many" (C8.fnArgs s_answer_many) (C8.fnBody s_answer_many) (C8.fnScope s_answer_many) .none kV_answer_many dc_answer_many pm_answer_many an_answer_many cd_answer_many ct_answer_many), sl_answer_many⟩)
    (c_answer_many : PySem.W.codeIn K cd_answer_many "answer_many" = true)
    (k_answer_many : PySem.W.keepIn K (.ref f_answer_many) = true)
    (a_answer_straight : PySem.W.nsIn K mainGlobals "answer_straight" = some (some (.ref f_answer_straight)))
    (l_answer_straight : K.lookup f_answer_straight = some ⟨oc_answer_straight, od_answer_straight, .func (PySem.W.fnOf "answer_straight" "answer_straight" (C8.fnArgs s_answer_straight) (C8.fnBody s_answer_straight) (C8.fnScope s_answer_straight) .none kV_answer_straight dc_answer_straight pm_answer_straight an_answer_straight cd_answer_straight ct_answer_straight), sl_answer_straight⟩)
    (c_answer_straight : PySem.W.codeIn K cd_answer_straight "answer_straight" = true)
    (k_answer_straight : PySem.W.keepIn K (.ref f_answer_straight) = true)
    (a_may_be_searched : PySem.W.nsIn K mainGlobals "may_be_searched" = some (some (.ref f_may_be_searched)))
    (l_may_be_searched : K.lookup f_may_be_searched = some ⟨oc_may_be_searched, od_may_be_searched, .func (PySem.W.fnOf "may_be_searched" "may_be_searched" (C8.fnArgs s_may_be_searched) (C8.fnBody s_may_be_searched) (C8.fnScope s_may_be_searched) .none kV_may_be_searched dc_may_be_searched pm_may_be_searched an_may_be_searched cd_may_be_searched ct_may_be_searched), sl_may_be_searched⟩)
    (c_may_be_searched : PySem.W.codeIn K cd_may_be_searched "may_be_searched" = true)
    (k_may_be_searched : PySem.W.keepIn K (.ref f_may_be_searched) = true)
    (a_squares_from_spider : PySem.W.nsIn K mainGlobals "squares_from_spider" = some (some (.ref f_squares_from_spider)))
    (l_squares_from_spider : K.lookup f_squares_from_spider = some ⟨oc_squares_from_spider, od_squares_from_spider, .func (PySem.W.fnOf "squares_from_spider" "squares_from_spider" (C8.fnArgs s_squares_from_spider) (C8.fnBody s_squares_from_spider) (C8.fnScope s_squares_from_spider) .none kV_squares_from_spider dc_squares_from_spider pm_squares_from_spider an_squares_from_spider cd_squares_from_spider ct_squares_from_spider), sl_squares_from_spider⟩)
    (c_squares_from_spider : PySem.W.codeIn K cd_squares_from_spider "squares_from_spider" = true)
    (k_squares_from_spider : PySem.W.keepIn K (.ref f_squares_from_spider) = true)
    (a_answer_farthest : PySem.W.nsIn K mainGlobals "answer_farthest" = some (some (.ref f_answer_farthest)))
    (l_answer_farthest : K.lookup f_answer_farthest = some ⟨oc_answer_farthest, od_answer_farthest, .func (PySem.W.fnOf "answer_farthest" "answer_farthest" (C8.fnArgs s_answer_farthest) (C8.fnBody s_answer_farthest) (C8.fnScope s_answer_farthest) .none kV_answer_farthest dc_answer_farthest pm_answer_farthest an_answer_farthest cd_answer_farthest ct_answer_farthest), sl_answer_farthest⟩)
    (c_answer_farthest : PySem.W.codeIn K cd_answer_farthest "answer_farthest" = true)
    (k_answer_farthest : PySem.W.keepIn K (.ref f_answer_farthest) = true)
    (a_answer_within : PySem.W.nsIn K mainGlobals "answer_within" = some (some (.ref f_answer_within)))
    (l_answer_within : K.lookup f_answer_within = some ⟨oc_answer_within, od_answer_within, .func (PySem.W.fnOf "answer_within" "answer_within" (C8.fnArgs s_answer_within) (C8.fnBody s_answer_within) (C8.fnScope s_answer_within) .none kV_answer_within dc_answer_within pm_answer_within an_answer_within cd_answer_within ct_answer_within), sl_answer_within⟩)
    (c_answer_within : PySem.W.codeIn K cd_answer_within "answer_within" = true)
    (k_answer_within : PySem.W.keepIn K (.ref f_answer_within) = true)
    (a_answer_faces : PySem.W.nsIn K mainGlobals "answer_faces" = some (some (.ref f_answer_faces)))
    (l_answer_faces : K.lookup f_answer_faces = some ⟨oc_answer_faces, od_answer_faces, .func (PySem.W.fnOf "answer_faces" "answer_faces" (C8.fnArgs s_answer_faces) (C8.fnBody s_answer_faces) (C8.fnScope s_answer_faces) .none kV_answer_faces dc_answer_faces pm_answer_faces an_answer_faces cd_answer_faces ct_answer_faces), sl_answer_faces⟩)
    (c_answer_faces : PySem.W.codeIn K cd_answer_faces "answer_faces" = true)
    (k_answer_faces : PySem.W.keepIn K (.ref f_answer_faces) = true)
    (a_answer_state : PySem.W.nsIn K mainGlobals "answer_state" = some (some (.ref f_answer_state)))
    (l_answer_state : K.lookup f_answer_state = some ⟨oc_answer_state, od_answer_state, .func (PySem.W.fnOf "answer_state" "answer_state" (C8.fnArgs s_answer_state) (C8.fnBody s_answer_state) (C8.fnScope s_answer_state) .none kV_answer_state dc_answer_state pm_answer_state an_answer_state cd_answer_state ct_answer_state), sl_answer_state⟩)
    (c_answer_state : PySem.W.codeIn K cd_answer_state "answer_state" = true)
    (k_answer_state : PySem.W.keepIn K (.ref f_answer_state) = true)
    (a_numbers_from : PySem.W.nsIn K mainGlobals "numbers_from" = some (some (.ref f_numbers_from)))
    (l_numbers_from : K.lookup f_numbers_from = some ⟨oc_numbers_from, od_numbers_from, .func (PySem.W.fnOf "numbers_from" "numbers_from" (C8.fnArgs s_numbers_from) (C8.fnBody s_numbers_from) (C8.fnScope s_numbers_from) .none kV_numbers_from dc_numbers_from pm_numbers_from an_numbers_from cd_numbers_from ct_numbers_from), sl_numbers_from⟩)
    (c_numbers_from : PySem.W.codeIn K cd_numbers_from "numbers_from" = true)
    (k_numbers_from : PySem.W.keepIn K (.ref f_numbers_from) = true)
    (a_call_end : PySem.W.nsIn K mainGlobals "call_end" = some (some (.ref f_call_end)))
    (l_call_end : K.lookup f_call_end = some ⟨oc_call_end, od_call_end, .func (PySem.W.fnOf "call_end" "call_end" (C8.fnArgs s_call_end) (C8.fnBody s_call_end) (C8.fnScope s_call_end) .none kV_call_end dc_call_end pm_call_end an_call_end cd_call_end ct_call_end), sl_call_end⟩)
    (c_call_end : PySem.W.codeIn K cd_call_end "call_end" = true)
    (k_call_end : PySem.W.keepIn K (.ref f_call_end) = true)
    (a_answers : PySem.W.nsIn K mainGlobals "answers" = some (some (.ref f_answers)))
    (l_answers : K.lookup f_answers = some ⟨oc_answers, od_answers, .func (PySem.W.fnOf "answers" "answers" (C8.fnArgs s_answers) (C8.fnBody s_answers) (C8.fnScope s_answers) .none kV_answers dc_answers pm_answers an_answers cd_answers ct_answers), sl_answers⟩)
    (c_answers : PySem.W.codeIn K cd_answers "answers" = true)
    (k_answers : PySem.W.keepIn K (.ref f_answers) = true)
    (g_AXES : PySem.W.nsIn K mainGlobals "AXES" = some (some (.int 3 t_AXES)))
    (g_FACES : PySem.W.nsIn K mainGlobals "FACES" = some (some (.int 6 t_FACES)))
    (g_LONGEST : PySem.W.nsIn K mainGlobals "LONGEST" = some (some (.int 40 t_LONGEST)))
    (g_LONGEST_SEARCHED : PySem.W.nsIn K mainGlobals "LONGEST_SEARCHED" = some (some (.int 4 t_LONGEST_SEARCHED)))
    (g_BEGINS : PySem.W.nsIn K mainGlobals "BEGINS" = some (some (.int 0 t_BEGINS)))
    (g_SPIDER : PySem.W.nsIn K mainGlobals "SPIDER" = some (some (.int 1 t_SPIDER)))
    (g_FLY : PySem.W.nsIn K mainGlobals "FLY" = some (some (.int 2 t_FLY)))
    (g_OVER : PySem.W.nsIn K mainGlobals "OVER" = some (some (.int 4 t_OVER)))
    (g_WITHIN : PySem.W.nsIn K mainGlobals "WITHIN" = some (some (.int 8 t_WITHIN)))
    (n_range : PySem.W.nsIn K mainGlobals "range" = some none)
    (n_len : PySem.W.nsIn K mainGlobals "len" = some none)
    (n_min : PySem.W.nsIn K mainGlobals "min" = some none)
    (n_max : PySem.W.nsIn K mainGlobals "max" = some none)
    (n_list : PySem.W.nsIn K mainGlobals "list" = some none)
    (n_sum : PySem.W.nsIn K mainGlobals "sum" = some none)
    (n_zip : PySem.W.nsIn K mainGlobals "zip" = some none) : Facts K mg cS cE cL cB tc_answer_way :=
  ⟨⟨⟨pgcS, hdcS, pocS, sacS⟩, ⟨pgcE, hdcE, pocE, sacE⟩, ⟨pgcL, hdcL, pocL, sacL⟩, ⟨pgcB, hdcB, pocB, sacB⟩, ⟨ncS_axis, ncS_start, ncS_sign⟩, ⟨ncE_across, ncE_where, ncE_low, ncE_high⟩, ⟨ncL_row, ncL_first, ncL_last, ncL_edges⟩, ⟨ncB_lengths, ncB_spider, ncB_fly⟩, ⟨_, PySem.W.mg_of X G g_AXES⟩, ⟨_, PySem.W.mg_of X G g_FACES⟩, ⟨_, PySem.W.mg_of X G g_LONGEST⟩, ⟨_, PySem.W.mg_of X G g_LONGEST_SEARCHED⟩, ⟨_, PySem.W.mg_of X G g_BEGINS⟩, ⟨_, PySem.W.mg_of X G g_SPIDER⟩, ⟨_, PySem.W.mg_of X G g_FLY⟩, ⟨_, PySem.W.mg_of X G g_OVER⟩, ⟨_, PySem.W.mg_of X G g_WITHIN⟩, PySem.W.mg_none_of X G n_range, PySem.W.mg_none_of X G n_len, PySem.W.mg_none_of X G n_min, PySem.W.mg_none_of X G n_max, PySem.W.mg_none_of X G n_list, PySem.W.mg_none_of X G n_sum, PySem.W.mg_none_of X G n_zip⟩,
   ⟨⟨_, _, ⟨mkcS, a_Scale___init__, i_Scale___init__, kccS⟩, (⟨⟨oc_Scale___init__, od_Scale___init__, .none, kV_Scale___init__, dc_Scale___init__, pm_Scale___init__, an_Scale___init__, cd_Scale___init__, ct_Scale___init__, sl_Scale___init__, rfl, l_Scale___init__, c_Scale___init__⟩⟩ : C8.Fun K "__init__" "Scale.__init__" s_Scale___init__ f_Scale___init__ _), (C8.Fun.binds (⟨⟨oc_Scale___init__, od_Scale___init__, .none, kV_Scale___init__, dc_Scale___init__, pm_Scale___init__, an_Scale___init__, cd_Scale___init__, ct_Scale___init__, sl_Scale___init__, rfl, l_Scale___init__, c_Scale___init__⟩⟩ : C8.Fun K "__init__" "Scale.__init__" s_Scale___init__ f_Scale___init__ _) rfl (ps := ["self", "axis", "start", "sign"]) fun _ _ _ _ _ _ us hl => match us, hl with | [_, _, _, _], _ => rfl)⟩, PySem.W.mg_of X G acS⟩,
   ⟨_, _, ⟨a_Scale_place, i_Scale_place, k_Scale_place⟩, (⟨⟨oc_Scale_place, od_Scale_place, .none, kV_Scale_place, dc_Scale_place, pm_Scale_place, an_Scale_place, cd_Scale_place, ct_Scale_place, sl_Scale_place, rfl, l_Scale_place, c_Scale_place⟩⟩ : C8.Fun K "place" "Scale.place" s_Scale_place f_Scale_place _), (C8.Fun.binds (⟨⟨oc_Scale_place, od_Scale_place, .none, kV_Scale_place, dc_Scale_place, pm_Scale_place, an_Scale_place, cd_Scale_place, ct_Scale_place, sl_Scale_place, rfl, l_Scale_place, c_Scale_place⟩⟩ : C8.Fun K "place" "Scale.place" s_Scale_place f_Scale_place _) rfl (ps := ["self", "coordinate"]) fun _ _ _ _ _ _ us hl => match us, hl with | [_, _], _ => rfl)⟩,
   ⟨⟨_, _, ⟨mkcE, a_Edge___init__, i_Edge___init__, kccE⟩, (⟨⟨oc_Edge___init__, od_Edge___init__, .none, kV_Edge___init__, dc_Edge___init__, pm_Edge___init__, an_Edge___init__, cd_Edge___init__, ct_Edge___init__, sl_Edge___init__, rfl, l_Edge___init__, c_Edge___init__⟩⟩ : C8.Fun K "__init__" "Edge.__init__" s_Edge___init__ f_Edge___init__ _), (C8.Fun.binds (⟨⟨oc_Edge___init__, od_Edge___init__, .none, kV_Edge___init__, dc_Edge___init__, pm_Edge___init__, an_Edge___init__, cd_Edge___init__, ct_Edge___init__, sl_Edge___init__, rfl, l_Edge___init__, c_Edge___init__⟩⟩ : C8.Fun K "__init__" "Edge.__init__" s_Edge___init__ f_Edge___init__ _) rfl (ps := ["self", "across", "where", "low", "high"]) fun _ _ _ _ _ _ us hl => match us, hl with | [_, _, _, _, _], _ => rfl)⟩, PySem.W.mg_of X G acE⟩,
   ⟨⟨_, _, ⟨mkcL, a_LaidRow___init__, i_LaidRow___init__, kccL⟩, (⟨⟨oc_LaidRow___init__, od_LaidRow___init__, .none, kV_LaidRow___init__, dc_LaidRow___init__, pm_LaidRow___init__, an_LaidRow___init__, cd_LaidRow___init__, ct_LaidRow___init__, sl_LaidRow___init__, rfl, l_LaidRow___init__, c_LaidRow___init__⟩⟩ : C8.Fun K "__init__" "LaidRow.__init__" s_LaidRow___init__ f_LaidRow___init__ _), (C8.Fun.binds (⟨⟨oc_LaidRow___init__, od_LaidRow___init__, .none, kV_LaidRow___init__, dc_LaidRow___init__, pm_LaidRow___init__, an_LaidRow___init__, cd_LaidRow___init__, ct_LaidRow___init__, sl_LaidRow___init__, rfl, l_LaidRow___init__, c_LaidRow___init__⟩⟩ : C8.Fun K "__init__" "LaidRow.__init__" s_LaidRow___init__ f_LaidRow___init__ _) rfl (ps := ["self", "row", "first", "last", "edges"]) fun _ _ _ _ _ _ us hl => match us, hl with | [_, _, _, _, _], _ => rfl)⟩, PySem.W.mg_of X G acL⟩,
   ⟨_, _, ⟨(⟨⟨oc_axis_of, od_axis_of, .none, kV_axis_of, dc_axis_of, pm_axis_of, an_axis_of, cd_axis_of, ct_axis_of, sl_axis_of, rfl, l_axis_of, c_axis_of⟩⟩ : C8.Fun K "axis_of" "axis_of" s_axis_of f_axis_of _), PySem.W.mg_of X G a_axis_of, k_axis_of⟩, (C8.Fun.binds (⟨⟨oc_axis_of, od_axis_of, .none, kV_axis_of, dc_axis_of, pm_axis_of, an_axis_of, cd_axis_of, ct_axis_of, sl_axis_of, rfl, l_axis_of, c_axis_of⟩⟩ : C8.Fun K "axis_of" "axis_of" s_axis_of f_axis_of _) rfl (ps := ["face"]) fun _ _ _ _ _ _ us hl => match us, hl with | [_], _ => rfl)⟩,
   ⟨_, _, ⟨(⟨⟨oc_side_of, od_side_of, .none, kV_side_of, dc_side_of, pm_side_of, an_side_of, cd_side_of, ct_side_of, sl_side_of, rfl, l_side_of, c_side_of⟩⟩ : C8.Fun K "side_of" "side_of" s_side_of f_side_of _), PySem.W.mg_of X G a_side_of, k_side_of⟩, (C8.Fun.binds (⟨⟨oc_side_of, od_side_of, .none, kV_side_of, dc_side_of, pm_side_of, an_side_of, cd_side_of, ct_side_of, sl_side_of, rfl, l_side_of, c_side_of⟩⟩ : C8.Fun K "side_of" "side_of" s_side_of f_side_of _) rfl (ps := ["face"]) fun _ _ _ _ _ _ us hl => match us, hl with | [_], _ => rfl)⟩,
   ⟨_, _, ⟨(⟨⟨oc_height_of, od_height_of, .none, kV_height_of, dc_height_of, pm_height_of, an_height_of, cd_height_of, ct_height_of, sl_height_of, rfl, l_height_of, c_height_of⟩⟩ : C8.Fun K "height_of" "height_of" s_height_of f_height_of _), PySem.W.mg_of X G a_height_of, k_height_of⟩, (C8.Fun.binds (⟨⟨oc_height_of, od_height_of, .none, kV_height_of, dc_height_of, pm_height_of, an_height_of, cd_height_of, ct_height_of, sl_height_of, rfl, l_height_of, c_height_of⟩⟩ : C8.Fun K "height_of" "height_of" s_height_of f_height_of _) rfl (ps := ["lengths", "face"]) fun _ _ _ _ _ _ us hl => match us, hl with | [_, _], _ => rfl)⟩,
   ⟨_, _, ⟨(⟨⟨oc_faces_at, od_faces_at, .none, kV_faces_at, dc_faces_at, pm_faces_at, an_faces_at, cd_faces_at, ct_faces_at, sl_faces_at, rfl, l_faces_at, c_faces_at⟩⟩ : C8.Fun K "faces_at" "faces_at" s_faces_at f_faces_at _), PySem.W.mg_of X G a_faces_at, k_faces_at⟩, (C8.Fun.binds (⟨⟨oc_faces_at, od_faces_at, .none, kV_faces_at, dc_faces_at, pm_faces_at, an_faces_at, cd_faces_at, ct_faces_at, sl_faces_at, rfl, l_faces_at, c_faces_at⟩⟩ : C8.Fun K "faces_at" "faces_at" s_faces_at f_faces_at _) rfl (ps := ["lengths", "point"]) fun _ _ _ _ _ _ us hl => match us, hl with | [_, _], _ => rfl)⟩,
   ⟨_, _, ⟨(⟨⟨oc_points_on, od_points_on, .none, kV_points_on, dc_points_on, pm_points_on, an_points_on, cd_points_on, ct_points_on, sl_points_on, rfl, l_points_on, c_points_on⟩⟩ : C8.Fun K "points_on" "points_on" s_points_on f_points_on _), PySem.W.mg_of X G a_points_on, k_points_on⟩, (C8.Fun.binds (⟨⟨oc_points_on, od_points_on, .none, kV_points_on, dc_points_on, pm_points_on, an_points_on, cd_points_on, ct_points_on, sl_points_on, rfl, l_points_on, c_points_on⟩⟩ : C8.Fun K "points_on" "points_on" s_points_on f_points_on _) rfl (ps := ["lengths"]) fun _ _ _ _ _ _ us hl => match us, hl with | [_], _ => rfl)⟩,
   ⟨_, _, ⟨(⟨⟨oc_can_follow, od_can_follow, .none, kV_can_follow, dc_can_follow, pm_can_follow, an_can_follow, cd_can_follow, ct_can_follow, sl_can_follow, rfl, l_can_follow, c_can_follow⟩⟩ : C8.Fun K "can_follow" "can_follow" s_can_follow f_can_follow _), PySem.W.mg_of X G a_can_follow, k_can_follow⟩, (C8.Fun.binds (⟨⟨oc_can_follow, od_can_follow, .none, kV_can_follow, dc_can_follow, pm_can_follow, an_can_follow, cd_can_follow, ct_can_follow, sl_can_follow, rfl, l_can_follow, c_can_follow⟩⟩ : C8.Fun K "can_follow" "can_follow" s_can_follow f_can_follow _) rfl (ps := ["row", "face"]) fun _ _ _ _ _ _ us hl => match us, hl with | [_, _], _ => rfl)⟩,
   ⟨_, _, ⟨(⟨⟨oc_is_row, od_is_row, .none, kV_is_row, dc_is_row, pm_is_row, an_is_row, cd_is_row, ct_is_row, sl_is_row, rfl, l_is_row, c_is_row⟩⟩ : C8.Fun K "is_row" "is_row" s_is_row f_is_row _), PySem.W.mg_of X G a_is_row, k_is_row⟩, (C8.Fun.binds (⟨⟨oc_is_row, od_is_row, .none, kV_is_row, dc_is_row, pm_is_row, an_is_row, cd_is_row, ct_is_row, sl_is_row, rfl, l_is_row, c_is_row⟩⟩ : C8.Fun K "is_row" "is_row" s_is_row f_is_row _) rfl (ps := ["faces"]) fun _ _ _ _ _ _ us hl => match us, hl with | [_], _ => rfl)⟩,
   ⟨_, _, ⟨(⟨⟨oc_first_scales, od_first_scales, .none, kV_first_scales, dc_first_scales, pm_first_scales, an_first_scales, cd_first_scales, ct_first_scales, sl_first_scales, rfl, l_first_scales, c_first_scales⟩⟩ : C8.Fun K "first_scales" "first_scales" s_first_scales f_first_scales _), PySem.W.mg_of X G a_first_scales, k_first_scales⟩, (C8.Fun.binds (⟨⟨oc_first_scales, od_first_scales, .none, kV_first_scales, dc_first_scales, pm_first_scales, an_first_scales, cd_first_scales, ct_first_scales, sl_first_scales, rfl, l_first_scales, c_first_scales⟩⟩ : C8.Fun K "first_scales" "first_scales" s_first_scales f_first_scales _) rfl (ps := ["face"]) fun _ _ _ _ _ _ us hl => match us, hl with | [_], _ => rfl)⟩,
   ⟨_, _, ⟨(⟨⟨oc_coordinate_across, od_coordinate_across, .none, kV_coordinate_across, dc_coordinate_across, pm_coordinate_across, an_coordinate_across, cd_coordinate_across, ct_coordinate_across, sl_coordinate_across, rfl, l_coordinate_across, c_coordinate_across⟩⟩ : C8.Fun K "coordinate_across" "coordinate_across" s_coordinate_across f_coordinate_across _), PySem.W.mg_of X G a_coordinate_across, k_coordinate_across⟩, (C8.Fun.binds (⟨⟨oc_coordinate_across, od_coordinate_across, .none, kV_coordinate_across, dc_coordinate_across, pm_coordinate_across, an_coordinate_across, cd_coordinate_across, ct_coordinate_across, sl_coordinate_across, rfl, l_coordinate_across, c_coordinate_across⟩⟩ : C8.Fun K "coordinate_across" "coordinate_across" s_coordinate_across f_coordinate_across _) rfl (ps := ["scales", "face"]) fun _ _ _ _ _ _ us hl => match us, hl with | [_, _], _ => rfl)⟩,
   ⟨_, _, ⟨(⟨⟨oc_edge_towards, od_edge_towards, .none, kV_edge_towards, dc_edge_towards, pm_edge_towards, an_edge_towards, cd_edge_towards, ct_edge_towards, sl_edge_towards, rfl, l_edge_towards, c_edge_towards⟩⟩ : C8.Fun K "edge_towards" "edge_towards" s_edge_towards f_edge_towards _), PySem.W.mg_of X G a_edge_towards, k_edge_towards⟩, (C8.Fun.binds (⟨⟨oc_edge_towards, od_edge_towards, .none, kV_edge_towards, dc_edge_towards, pm_edge_towards, an_edge_towards, cd_edge_towards, ct_edge_towards, sl_edge_towards, rfl, l_edge_towards, c_edge_towards⟩⟩ : C8.Fun K "edge_towards" "edge_towards" s_edge_towards f_edge_towards _) rfl (ps := ["lengths", "scales", "face"]) fun _ _ _ _ _ _ us hl => match us, hl with | [_, _, _], _ => rfl)⟩,
   ⟨_, _, ⟨(⟨⟨oc_scales_beyond, od_scales_beyond, .none, kV_scales_beyond, dc_scales_beyond, pm_scales_beyond, an_scales_beyond, cd_scales_beyond, ct_scales_beyond, sl_scales_beyond, rfl, l_scales_beyond, c_scales_beyond⟩⟩ : C8.Fun K "scales_beyond" "scales_beyond" s_scales_beyond f_scales_beyond _), PySem.W.mg_of X G a_scales_beyond, k_scales_beyond⟩, (C8.Fun.binds (⟨⟨oc_scales_beyond, od_scales_beyond, .none, kV_scales_beyond, dc_scales_beyond, pm_scales_beyond, an_scales_beyond, cd_scales_beyond, ct_scales_beyond, sl_scales_beyond, rfl, l_scales_beyond, c_scales_beyond⟩⟩ : C8.Fun K "scales_beyond" "scales_beyond" s_scales_beyond f_scales_beyond _) rfl (ps := ["lengths", "scales", "face", "following"]) fun _ _ _ _ _ _ us hl => match us, hl with | [_, _, _, _], _ => rfl)⟩,
   ⟨_, _, ⟨(⟨⟨oc_laid_alone, od_laid_alone, .none, kV_laid_alone, dc_laid_alone, pm_laid_alone, an_laid_alone, cd_laid_alone, ct_laid_alone, sl_laid_alone, rfl, l_laid_alone, c_laid_alone⟩⟩ : C8.Fun K "laid_alone" "laid_alone" s_laid_alone f_laid_alone _), PySem.W.mg_of X G a_laid_alone, k_laid_alone⟩, (C8.Fun.binds (⟨⟨oc_laid_alone, od_laid_alone, .none, kV_laid_alone, dc_laid_alone, pm_laid_alone, an_laid_alone, cd_laid_alone, ct_laid_alone, sl_laid_alone, rfl, l_laid_alone, c_laid_alone⟩⟩ : C8.Fun K "laid_alone" "laid_alone" s_laid_alone f_laid_alone _) rfl (ps := ["face"]) fun _ _ _ _ _ _ us hl => match us, hl with | [_], _ => rfl)⟩,
   ⟨_, _, ⟨(⟨⟨oc_laid_on, od_laid_on, .none, kV_laid_on, dc_laid_on, pm_laid_on, an_laid_on, cd_laid_on, ct_laid_on, sl_laid_on, rfl, l_laid_on, c_laid_on⟩⟩ : C8.Fun K "laid_on" "laid_on" s_laid_on f_laid_on _), PySem.W.mg_of X G a_laid_on, k_laid_on⟩, (C8.Fun.binds (⟨⟨oc_laid_on, od_laid_on, .none, kV_laid_on, dc_laid_on, pm_laid_on, an_laid_on, cd_laid_on, ct_laid_on, sl_laid_on, rfl, l_laid_on, c_laid_on⟩⟩ : C8.Fun K "laid_on" "laid_on" s_laid_on f_laid_on _) rfl (ps := ["lengths", "laid", "face"]) fun _ _ _ _ _ _ us hl => match us, hl with | [_, _, _], _ => rfl)⟩,
   ⟨_, _, ⟨(⟨⟨oc_lay, od_lay, .none, kV_lay, dc_lay, pm_lay, an_lay, cd_lay, ct_lay, sl_lay, rfl, l_lay, c_lay⟩⟩ : C8.Fun K "lay" "lay" s_lay f_lay _), PySem.W.mg_of X G a_lay, k_lay⟩, (C8.Fun.binds (⟨⟨oc_lay, od_lay, .none, kV_lay, dc_lay, pm_lay, an_lay, cd_lay, ct_lay, sl_lay, rfl, l_lay, c_lay⟩⟩ : C8.Fun K "lay" "lay" s_lay f_lay _) rfl (ps := ["lengths", "row"]) fun _ _ _ _ _ _ us hl => match us, hl with | [_, _], _ => rfl)⟩,
   ⟨_, _, ⟨(⟨⟨oc_laid_beginning, od_laid_beginning, .none, kV_laid_beginning, dc_laid_beginning, pm_laid_beginning, an_laid_beginning, cd_laid_beginning, ct_laid_beginning, sl_laid_beginning, rfl, l_laid_beginning, c_laid_beginning⟩⟩ : C8.Fun K "laid_beginning" "laid_beginning" s_laid_beginning f_laid_beginning _), PySem.W.mg_of X G a_laid_beginning, k_laid_beginning⟩, (C8.Fun.binds (⟨⟨oc_laid_beginning, od_laid_beginning, .none, kV_laid_beginning, dc_laid_beginning, pm_laid_beginning, an_laid_beginning, cd_laid_beginning, ct_laid_beginning, sl_laid_beginning, rfl, l_laid_beginning, c_laid_beginning⟩⟩ : C8.Fun K "laid_beginning" "laid_beginning" s_laid_beginning f_laid_beginning _) rfl (ps := ["lengths", "laid"]) fun _ _ _ _ _ _ us hl => match us, hl with | [_, _], _ => rfl)⟩,
   ⟨_, _, ⟨(⟨⟨oc_laid_from, od_laid_from, .none, kV_laid_from, dc_laid_from, pm_laid_from, an_laid_from, cd_laid_from, ct_laid_from, sl_laid_from, rfl, l_laid_from, c_laid_from⟩⟩ : C8.Fun K "laid_from" "laid_from" s_laid_from f_laid_from _), PySem.W.mg_of X G a_laid_from, k_laid_from⟩, (C8.Fun.binds (⟨⟨oc_laid_from, od_laid_from, .none, kV_laid_from, dc_laid_from, pm_laid_from, an_laid_from, cd_laid_from, ct_laid_from, sl_laid_from, rfl, l_laid_from, c_laid_from⟩⟩ : C8.Fun K "laid_from" "laid_from" s_laid_from f_laid_from _) rfl (ps := ["lengths", "faces"]) fun _ _ _ _ _ _ us hl => match us, hl with | [_, _], _ => rfl)⟩,
   ⟨_, _, ⟨(⟨⟨oc_spot_of, od_spot_of, .none, kV_spot_of, dc_spot_of, pm_spot_of, an_spot_of, cd_spot_of, ct_spot_of, sl_spot_of, rfl, l_spot_of, c_spot_of⟩⟩ : C8.Fun K "spot_of" "spot_of" s_spot_of f_spot_of _), PySem.W.mg_of X G a_spot_of, k_spot_of⟩, (C8.Fun.binds (⟨⟨oc_spot_of, od_spot_of, .none, kV_spot_of, dc_spot_of, pm_spot_of, an_spot_of, cd_spot_of, ct_spot_of, sl_spot_of, rfl, l_spot_of, c_spot_of⟩⟩ : C8.Fun K "spot_of" "spot_of" s_spot_of f_spot_of _) rfl (ps := ["scales", "point"]) fun _ _ _ _ _ _ us hl => match us, hl with | [_, _], _ => rfl)⟩,
   ⟨_, _, ⟨(⟨⟨oc_goes_through, od_goes_through, .none, kV_goes_through, dc_goes_through, pm_goes_through, an_goes_through, cd_goes_through, ct_goes_through, sl_goes_through, rfl, l_goes_through, c_goes_through⟩⟩ : C8.Fun K "goes_through" "goes_through" s_goes_through f_goes_through _), PySem.W.mg_of X G a_goes_through, k_goes_through⟩, (C8.Fun.binds (⟨⟨oc_goes_through, od_goes_through, .none, kV_goes_through, dc_goes_through, pm_goes_through, an_goes_through, cd_goes_through, ct_goes_through, sl_goes_through, rfl, l_goes_through, c_goes_through⟩⟩ : C8.Fun K "goes_through" "goes_through" s_goes_through f_goes_through _) rfl (ps := ["begin", "finish", "edge"]) fun _ _ _ _ _ _ us hl => match us, hl with | [_, _, _], _ => rfl)⟩,
   ⟨_, _, ⟨(⟨⟨oc_square_over, od_square_over, .none, kV_square_over, dc_square_over, pm_square_over, an_square_over, cd_square_over, ct_square_over, sl_square_over, rfl, l_square_over, c_square_over⟩⟩ : C8.Fun K "square_over" "square_over" s_square_over f_square_over _), PySem.W.mg_of X G a_square_over, k_square_over⟩, (C8.Fun.binds (⟨⟨oc_square_over, od_square_over, .none, kV_square_over, dc_square_over, pm_square_over, an_square_over, cd_square_over, ct_square_over, sl_square_over, rfl, l_square_over, c_square_over⟩⟩ : C8.Fun K "square_over" "square_over" s_square_over f_square_over _) rfl (ps := ["laid", "start", "end"]) fun _ _ _ _ _ _ us hl => match us, hl with | [_, _, _], _ => rfl)⟩,
   ⟨_, _, ⟨(⟨⟨oc_is_straight_way, od_is_straight_way, .none, kV_is_straight_way, dc_is_straight_way, pm_is_straight_way, an_is_straight_way, cd_is_straight_way, ct_is_straight_way, sl_is_straight_way, rfl, l_is_straight_way, c_is_straight_way⟩⟩ : C8.Fun K "is_straight_way" "is_straight_way" s_is_straight_way f_is_straight_way _), PySem.W.mg_of X G a_is_straight_way, k_is_straight_way⟩, (C8.Fun.binds (⟨⟨oc_is_straight_way, od_is_straight_way, .none, kV_is_straight_way, dc_is_straight_way, pm_is_straight_way, an_is_straight_way, cd_is_straight_way, ct_is_straight_way, sl_is_straight_way, rfl, l_is_straight_way, c_is_straight_way⟩⟩ : C8.Fun K "is_straight_way" "is_straight_way" s_is_straight_way f_is_straight_way _) rfl (ps := ["laid", "start", "end"]) fun _ _ _ _ _ _ us hl => match us, hl with | [_, _, _], _ => rfl)⟩,
   ⟨_, _, ⟨(⟨⟨oc_shortest_square, od_shortest_square, .none, kV_shortest_square, dc_shortest_square, pm_shortest_square, an_shortest_square, cd_shortest_square, ct_shortest_square, sl_shortest_square, rfl, l_shortest_square, c_shortest_square⟩⟩ : C8.Fun K "shortest_square" "shortest_square" s_shortest_square f_shortest_square _), PySem.W.mg_of X G a_shortest_square, k_shortest_square⟩, (C8.Fun.binds (⟨⟨oc_shortest_square, od_shortest_square, .none, kV_shortest_square, dc_shortest_square, pm_shortest_square, an_shortest_square, cd_shortest_square, ct_shortest_square, sl_shortest_square, rfl, l_shortest_square, c_shortest_square⟩⟩ : C8.Fun K "shortest_square" "shortest_square" s_shortest_square f_shortest_square _) rfl (ps := ["laid_rows", "start", "end"]) fun _ _ _ _ _ _ us hl => match us, hl with | [_, _, _], _ => rfl)⟩,
   ⟨⟨_, _, ⟨mkcB, a_Box___init__, i_Box___init__, kccB⟩, (⟨⟨oc_Box___init__, od_Box___init__, .none, kV_Box___init__, dc_Box___init__, pm_Box___init__, an_Box___init__, cd_Box___init__, ct_Box___init__, sl_Box___init__, rfl, l_Box___init__, c_Box___init__⟩⟩ : C8.Fun K "__init__" "Box.__init__" s_Box___init__ f_Box___init__ _), (C8.Fun.binds (⟨⟨oc_Box___init__, od_Box___init__, .none, kV_Box___init__, dc_Box___init__, pm_Box___init__, an_Box___init__, cd_Box___init__, ct_Box___init__, sl_Box___init__, rfl, l_Box___init__, c_Box___init__⟩⟩ : C8.Fun K "__init__" "Box.__init__" s_Box___init__ f_Box___init__ _) rfl (ps := ["self"]) fun _ _ _ _ _ _ us hl => match us, hl with | [_], _ => rfl)⟩, PySem.W.mg_of X G acB⟩,
   ⟨_, _, ⟨(⟨⟨oc_told_list, od_told_list, .none, kV_told_list, dc_told_list, pm_told_list, an_told_list, cd_told_list, ct_told_list, sl_told_list, rfl, l_told_list, c_told_list⟩⟩ : C8.Fun K "told_list" "told_list" s_told_list f_told_list _), PySem.W.mg_of X G a_told_list, k_told_list⟩, (C8.Fun.binds (⟨⟨oc_told_list, od_told_list, .none, kV_told_list, dc_told_list, pm_told_list, an_told_list, cd_told_list, ct_told_list, sl_told_list, rfl, l_told_list, c_told_list⟩⟩ : C8.Fun K "told_list" "told_list" s_told_list f_told_list _) rfl (ps := ["numbers"]) fun _ _ _ _ _ _ us hl => match us, hl with | [_], _ => rfl)⟩,
   ⟨_, _, ⟨(⟨⟨oc_answer_begins, od_answer_begins, .none, kV_answer_begins, dc_answer_begins, pm_answer_begins, an_answer_begins, cd_answer_begins, ct_answer_begins, sl_answer_begins, rfl, l_answer_begins, c_answer_begins⟩⟩ : C8.Fun K "answer_begins" "answer_begins" s_answer_begins f_answer_begins _), PySem.W.mg_of X G a_answer_begins, k_answer_begins⟩, (C8.Fun.binds (⟨⟨oc_answer_begins, od_answer_begins, .none, kV_answer_begins, dc_answer_begins, pm_answer_begins, an_answer_begins, cd_answer_begins, ct_answer_begins, sl_answer_begins, rfl, l_answer_begins, c_answer_begins⟩⟩ : C8.Fun K "answer_begins" "answer_begins" s_answer_begins f_answer_begins _) rfl (ps := ["box", "lengths"]) fun _ _ _ _ _ _ us hl => match us, hl with | [_, _], _ => rfl)⟩,
   ⟨_, _, ⟨(⟨⟨oc_answer_spider, od_answer_spider, .none, kV_answer_spider, dc_answer_spider, pm_answer_spider, an_answer_spider, cd_answer_spider, ct_answer_spider, sl_answer_spider, rfl, l_answer_spider, c_answer_spider⟩⟩ : C8.Fun K "answer_spider" "answer_spider" s_answer_spider f_answer_spider _), PySem.W.mg_of X G a_answer_spider, k_answer_spider⟩, (C8.Fun.binds (⟨⟨oc_answer_spider, od_answer_spider, .none, kV_answer_spider, dc_answer_spider, pm_answer_spider, an_answer_spider, cd_answer_spider, ct_answer_spider, sl_answer_spider, rfl, l_answer_spider, c_answer_spider⟩⟩ : C8.Fun K "answer_spider" "answer_spider" s_answer_spider f_answer_spider _) rfl (ps := ["box", "point"]) fun _ _ _ _ _ _ us hl => match us, hl with | [_, _], _ => rfl)⟩,
   ⟨_, _, ⟨(⟨⟨oc_answer_fly, od_answer_fly, .none, kV_answer_fly, dc_answer_fly, pm_answer_fly, an_answer_fly, cd_answer_fly, ct_answer_fly, sl_answer_fly, rfl, l_answer_fly, c_answer_fly⟩⟩ : C8.Fun K "answer_fly" "answer_fly" s_answer_fly f_answer_fly _), PySem.W.mg_of X G a_answer_fly, k_answer_fly⟩, (C8.Fun.binds (⟨⟨oc_answer_fly, od_answer_fly, .none, kV_answer_fly, dc_answer_fly, pm_answer_fly, an_answer_fly, cd_answer_fly, ct_answer_fly, sl_answer_fly, rfl, l_answer_fly, c_answer_fly⟩⟩ : C8.Fun K "answer_fly" "answer_fly" s_answer_fly f_answer_fly _) rfl (ps := ["box", "point"]) fun _ _ _ _ _ _ us hl => match us, hl with | [_, _], _ => rfl)⟩,
   ⟨_, _, ⟨(⟨⟨oc_spider_faces, od_spider_faces, .none, kV_spider_faces, dc_spider_faces, pm_spider_faces, an_spider_faces, cd_spider_faces, ct_spider_faces, sl_spider_faces, rfl, l_spider_faces, c_spider_faces⟩⟩ : C8.Fun K "spider_faces" "spider_faces" s_spider_faces f_spider_faces _), PySem.W.mg_of X G a_spider_faces, k_spider_faces⟩, (C8.Fun.binds (⟨⟨oc_spider_faces, od_spider_faces, .none, kV_spider_faces, dc_spider_faces, pm_spider_faces, an_spider_faces, cd_spider_faces, ct_spider_faces, sl_spider_faces, rfl, l_spider_faces, c_spider_faces⟩⟩ : C8.Fun K "spider_faces" "spider_faces" s_spider_faces f_spider_faces _) rfl (ps := ["box"]) fun _ _ _ _ _ _ us hl => match us, hl with | [_], _ => rfl)⟩,
   ⟨_, _, ⟨(⟨⟨oc_fly_faces, od_fly_faces, .none, kV_fly_faces, dc_fly_faces, pm_fly_faces, an_fly_faces, cd_fly_faces, ct_fly_faces, sl_fly_faces, rfl, l_fly_faces, c_fly_faces⟩⟩ : C8.Fun K "fly_faces" "fly_faces" s_fly_faces f_fly_faces _), PySem.W.mg_of X G a_fly_faces, k_fly_faces⟩, (C8.Fun.binds (⟨⟨oc_fly_faces, od_fly_faces, .none, kV_fly_faces, dc_fly_faces, pm_fly_faces, an_fly_faces, cd_fly_faces, ct_fly_faces, sl_fly_faces, rfl, l_fly_faces, c_fly_faces⟩⟩ : C8.Fun K "fly_faces" "fly_faces" s_fly_faces f_fly_faces _) rfl (ps := ["box"]) fun _ _ _ _ _ _ us hl => match us, hl with | [_], _ => rfl)⟩,
   ⟨_, _, ⟨(⟨⟨oc_straight_ways, od_straight_ways, .none, kV_straight_ways, dc_straight_ways, pm_straight_ways, an_straight_ways, cd_straight_ways, ct_straight_ways, sl_straight_ways, rfl, l_straight_ways, c_straight_ways⟩⟩ : C8.Fun K "straight_ways" "straight_ways" s_straight_ways f_straight_ways _), PySem.W.mg_of X G a_straight_ways, k_straight_ways⟩, (C8.Fun.binds (⟨⟨oc_straight_ways, od_straight_ways, .none, kV_straight_ways, dc_straight_ways, pm_straight_ways, an_straight_ways, cd_straight_ways, ct_straight_ways, sl_straight_ways, rfl, l_straight_ways, c_straight_ways⟩⟩ : C8.Fun K "straight_ways" "straight_ways" s_straight_ways f_straight_ways _) rfl (ps := ["box"]) fun _ _ _ _ _ _ us hl => match us, hl with | [_], _ => rfl)⟩,
   ⟨_, oc_answer_way, od_answer_way, .none, kV_answer_way, dc_answer_way, pm_answer_way, an_answer_way, ct_answer_way, sl_answer_way, l_answer_way, c_answer_way, PySem.W.mg_of X G a_answer_way, k_answer_way, (C8.Fun.binds (⟨⟨oc_answer_way, od_answer_way, .none, kV_answer_way, dc_answer_way, pm_answer_way, an_answer_way, .ref tc_answer_way, ct_answer_way, sl_answer_way, rfl, l_answer_way, c_answer_way⟩⟩ : C8.Fun K "answer_way" "answer_way" s_answer_way f_answer_way _) rfl (ps := ["box", "nothing"]) fun _ _ _ _ _ _ us hl => match us, hl with | [_, _], _ => rfl)⟩,
   ⟨_, _, ⟨(⟨⟨oc_joins, od_joins, .none, kV_joins, dc_joins, pm_joins, an_joins, cd_joins, ct_joins, sl_joins, rfl, l_joins, c_joins⟩⟩ : C8.Fun K "joins" "joins" s_joins f_joins _), PySem.W.mg_of X G a_joins, k_joins⟩, (C8.Fun.binds (⟨⟨oc_joins, od_joins, .none, kV_joins, dc_joins, pm_joins, an_joins, cd_joins, ct_joins, sl_joins, rfl, l_joins, c_joins⟩⟩ : C8.Fun K "joins" "joins" s_joins f_joins _) rfl (ps := ["box", "row"]) fun _ _ _ _ _ _ us hl => match us, hl with | [_, _], _ => rfl)⟩,
   ⟨_, _, ⟨(⟨⟨oc_answer_over, od_answer_over, .none, kV_answer_over, dc_answer_over, pm_answer_over, an_answer_over, cd_answer_over, ct_answer_over, sl_answer_over, rfl, l_answer_over, c_answer_over⟩⟩ : C8.Fun K "answer_over" "answer_over" s_answer_over f_answer_over _), PySem.W.mg_of X G a_answer_over, k_answer_over⟩, (C8.Fun.binds (⟨⟨oc_answer_over, od_answer_over, .none, kV_answer_over, dc_answer_over, pm_answer_over, an_answer_over, cd_answer_over, ct_answer_over, sl_answer_over, rfl, l_answer_over, c_answer_over⟩⟩ : C8.Fun K "answer_over" "answer_over" s_answer_over f_answer_over _) rfl (ps := ["box", "faces"]) fun _ _ _ _ _ _ us hl => match us, hl with | [_, _], _ => rfl)⟩,
   ⟨_, _, ⟨(⟨⟨oc_answer_many, od_answer_many, .none, kV_answer_many, dc_answer_many, pm_answer_many, an_answer_many, cd_answer_many, ct_answer_many, sl_answer_many, rfl, l_answer_many, c_answer_many⟩⟩ : C8.Fun K "answer_many" "answer_many" s_answer_many f_answer_many _), PySem.W.mg_of X G a_answer_many, k_answer_many⟩, (C8.Fun.binds (⟨⟨oc_answer_many, od_answer_many, .none, kV_answer_many, dc_answer_many, pm_answer_many, an_answer_many, cd_answer_many, ct_answer_many, sl_answer_many, rfl, l_answer_many, c_answer_many⟩⟩ : C8.Fun K "answer_many" "answer_many" s_answer_many f_answer_many _) rfl (ps := ["box", "nothing"]) fun _ _ _ _ _ _ us hl => match us, hl with | [_, _], _ => rfl)⟩,
   ⟨_, _, ⟨(⟨⟨oc_answer_straight, od_answer_straight, .none, kV_answer_straight, dc_answer_straight, pm_answer_straight, an_answer_straight, cd_answer_straight, ct_answer_straight, sl_answer_straight, rfl, l_answer_straight, c_answer_straight⟩⟩ : C8.Fun K "answer_straight" "answer_straight" s_answer_straight f_answer_straight _), PySem.W.mg_of X G a_answer_straight, k_answer_straight⟩, (C8.Fun.binds (⟨⟨oc_answer_straight, od_answer_straight, .none, kV_answer_straight, dc_answer_straight, pm_answer_straight, an_answer_straight, cd_answer_straight, ct_answer_straight, sl_answer_straight, rfl, l_answer_straight, c_answer_straight⟩⟩ : C8.Fun K "answer_straight" "answer_straight" s_answer_straight f_answer_straight _) rfl (ps := ["box", "nothing"]) fun _ _ _ _ _ _ us hl => match us, hl with | [_, _], _ => rfl)⟩,
   ⟨_, _, ⟨(⟨⟨oc_may_be_searched, od_may_be_searched, .none, kV_may_be_searched, dc_may_be_searched, pm_may_be_searched, an_may_be_searched, cd_may_be_searched, ct_may_be_searched, sl_may_be_searched, rfl, l_may_be_searched, c_may_be_searched⟩⟩ : C8.Fun K "may_be_searched" "may_be_searched" s_may_be_searched f_may_be_searched _), PySem.W.mg_of X G a_may_be_searched, k_may_be_searched⟩, (C8.Fun.binds (⟨⟨oc_may_be_searched, od_may_be_searched, .none, kV_may_be_searched, dc_may_be_searched, pm_may_be_searched, an_may_be_searched, cd_may_be_searched, ct_may_be_searched, sl_may_be_searched, rfl, l_may_be_searched, c_may_be_searched⟩⟩ : C8.Fun K "may_be_searched" "may_be_searched" s_may_be_searched f_may_be_searched _) rfl (ps := ["box"]) fun _ _ _ _ _ _ us hl => match us, hl with | [_], _ => rfl)⟩,
   ⟨_, _, ⟨(⟨⟨oc_squares_from_spider, od_squares_from_spider, .none, kV_squares_from_spider, dc_squares_from_spider, pm_squares_from_spider, an_squares_from_spider, cd_squares_from_spider, ct_squares_from_spider, sl_squares_from_spider, rfl, l_squares_from_spider, c_squares_from_spider⟩⟩ : C8.Fun K "squares_from_spider" "squares_from_spider" s_squares_from_spider f_squares_from_spider _), PySem.W.mg_of X G a_squares_from_spider, k_squares_from_spider⟩, (C8.Fun.binds (⟨⟨oc_squares_from_spider, od_squares_from_spider, .none, kV_squares_from_spider, dc_squares_from_spider, pm_squares_from_spider, an_squares_from_spider, cd_squares_from_spider, ct_squares_from_spider, sl_squares_from_spider, rfl, l_squares_from_spider, c_squares_from_spider⟩⟩ : C8.Fun K "squares_from_spider" "squares_from_spider" s_squares_from_spider f_squares_from_spider _) rfl (ps := ["box"]) fun _ _ _ _ _ _ us hl => match us, hl with | [_], _ => rfl)⟩,
   ⟨_, _, ⟨(⟨⟨oc_answer_farthest, od_answer_farthest, .none, kV_answer_farthest, dc_answer_farthest, pm_answer_farthest, an_answer_farthest, cd_answer_farthest, ct_answer_farthest, sl_answer_farthest, rfl, l_answer_farthest, c_answer_farthest⟩⟩ : C8.Fun K "answer_farthest" "answer_farthest" s_answer_farthest f_answer_farthest _), PySem.W.mg_of X G a_answer_farthest, k_answer_farthest⟩, (C8.Fun.binds (⟨⟨oc_answer_farthest, od_answer_farthest, .none, kV_answer_farthest, dc_answer_farthest, pm_answer_farthest, an_answer_farthest, cd_answer_farthest, ct_answer_farthest, sl_answer_farthest, rfl, l_answer_farthest, c_answer_farthest⟩⟩ : C8.Fun K "answer_farthest" "answer_farthest" s_answer_farthest f_answer_farthest _) rfl (ps := ["box", "nothing"]) fun _ _ _ _ _ _ us hl => match us, hl with | [_, _], _ => rfl)⟩,
   ⟨_, _, ⟨(⟨⟨oc_answer_within, od_answer_within, .none, kV_answer_within, dc_answer_within, pm_answer_within, an_answer_within, cd_answer_within, ct_answer_within, sl_answer_within, rfl, l_answer_within, c_answer_within⟩⟩ : C8.Fun K "answer_within" "answer_within" s_answer_within f_answer_within _), PySem.W.mg_of X G a_answer_within, k_answer_within⟩, (C8.Fun.binds (⟨⟨oc_answer_within, od_answer_within, .none, kV_answer_within, dc_answer_within, pm_answer_within, an_answer_within, cd_answer_within, ct_answer_within, sl_answer_within, rfl, l_answer_within, c_answer_within⟩⟩ : C8.Fun K "answer_within" "answer_within" s_answer_within f_answer_within _) rfl (ps := ["box", "handed"]) fun _ _ _ _ _ _ us hl => match us, hl with | [_, _], _ => rfl)⟩,
   ⟨_, _, ⟨(⟨⟨oc_answer_faces, od_answer_faces, .none, kV_answer_faces, dc_answer_faces, pm_answer_faces, an_answer_faces, cd_answer_faces, ct_answer_faces, sl_answer_faces, rfl, l_answer_faces, c_answer_faces⟩⟩ : C8.Fun K "answer_faces" "answer_faces" s_answer_faces f_answer_faces _), PySem.W.mg_of X G a_answer_faces, k_answer_faces⟩, (C8.Fun.binds (⟨⟨oc_answer_faces, od_answer_faces, .none, kV_answer_faces, dc_answer_faces, pm_answer_faces, an_answer_faces, cd_answer_faces, ct_answer_faces, sl_answer_faces, rfl, l_answer_faces, c_answer_faces⟩⟩ : C8.Fun K "answer_faces" "answer_faces" s_answer_faces f_answer_faces _) rfl (ps := ["box", "nothing"]) fun _ _ _ _ _ _ us hl => match us, hl with | [_, _], _ => rfl)⟩,
   ⟨_, _, ⟨(⟨⟨oc_answer_state, od_answer_state, .none, kV_answer_state, dc_answer_state, pm_answer_state, an_answer_state, cd_answer_state, ct_answer_state, sl_answer_state, rfl, l_answer_state, c_answer_state⟩⟩ : C8.Fun K "answer_state" "answer_state" s_answer_state f_answer_state _), PySem.W.mg_of X G a_answer_state, k_answer_state⟩, (C8.Fun.binds (⟨⟨oc_answer_state, od_answer_state, .none, kV_answer_state, dc_answer_state, pm_answer_state, an_answer_state, cd_answer_state, ct_answer_state, sl_answer_state, rfl, l_answer_state, c_answer_state⟩⟩ : C8.Fun K "answer_state" "answer_state" s_answer_state f_answer_state _) rfl (ps := ["box", "nothing"]) fun _ _ _ _ _ _ us hl => match us, hl with | [_, _], _ => rfl)⟩,
   ⟨_, _, ⟨(⟨⟨oc_numbers_from, od_numbers_from, .none, kV_numbers_from, dc_numbers_from, pm_numbers_from, an_numbers_from, cd_numbers_from, ct_numbers_from, sl_numbers_from, rfl, l_numbers_from, c_numbers_from⟩⟩ : C8.Fun K "numbers_from" "numbers_from" s_numbers_from f_numbers_from _), PySem.W.mg_of X G a_numbers_from, k_numbers_from⟩, (C8.Fun.binds (⟨⟨oc_numbers_from, od_numbers_from, .none, kV_numbers_from, dc_numbers_from, pm_numbers_from, an_numbers_from, cd_numbers_from, ct_numbers_from, sl_numbers_from, rfl, l_numbers_from, c_numbers_from⟩⟩ : C8.Fun K "numbers_from" "numbers_from" s_numbers_from f_numbers_from _) rfl (ps := ["calls", "place"]) fun _ _ _ _ _ _ us hl => match us, hl with | [_, _], _ => rfl)⟩,
   ⟨_, _, ⟨(⟨⟨oc_call_end, od_call_end, .none, kV_call_end, dc_call_end, pm_call_end, an_call_end, cd_call_end, ct_call_end, sl_call_end, rfl, l_call_end, c_call_end⟩⟩ : C8.Fun K "call_end" "call_end" s_call_end f_call_end _), PySem.W.mg_of X G a_call_end, k_call_end⟩, (C8.Fun.binds (⟨⟨oc_call_end, od_call_end, .none, kV_call_end, dc_call_end, pm_call_end, an_call_end, cd_call_end, ct_call_end, sl_call_end, rfl, l_call_end, c_call_end⟩⟩ : C8.Fun K "call_end" "call_end" s_call_end f_call_end _) rfl (ps := ["calls", "place"]) fun _ _ _ _ _ _ us hl => match us, hl with | [_, _], _ => rfl)⟩,
   ⟨_, _, ⟨(⟨⟨oc_answers, od_answers, .none, kV_answers, dc_answers, pm_answers, an_answers, cd_answers, ct_answers, sl_answers, rfl, l_answers, c_answers⟩⟩ : C8.Fun K "answers" "answers" s_answers f_answers _), PySem.W.mg_of X G a_answers, k_answers⟩, (C8.Fun.binds (⟨⟨oc_answers, od_answers, .none, kV_answers, dc_answers, pm_answers, an_answers, cd_answers, ct_answers, sl_answers, rfl, l_answers, c_answers⟩⟩ : C8.Fun K "answers" "answers" s_answers f_answers _) rfl (ps := ["calls"]) fun _ _ _ _ _ _ us hl => match us, hl with | [_], _ => rfl)⟩⟩
theorem calAt_of {P : Program} {w : World} {K : Frg} {mg : Str → Option Value} {base : Heap} {k k' : Nat} {x : Str} {sp : Sp} {f : Addr} (c : C8.Cal P w K mg base k x sp []) (hm : mg x = some (.ref f)) (h : k ≤ k') : C8.CalAt P w K mg base k' f sp := by
  obtain ⟨f', fd, ps, ds, F, hm', kp, b, v⟩ := c.ex
  rw [hm] at hm'
  cases hm'
  cases v
  exact ⟨fd, ps, F.mono h, kp, b⟩
theorem spOf_ne (T : List (Addr × Str)) (cB : Addr) {i : Nat} (h : i ≠ 3) : spOf T cB i = AnsSp T cB (RK i) := if_neg h
theorem all_fn {P : Program} {w : World} {K : Frg} {mg : Str → Option Value} {base : Heap} {cS cE cL cB tc tP aT f0 f1 f2 f3 f4 f5 f6 f7 f8 f9 f10 fa : Addr} {fd : FuncData} (F : Facts K mg cS cE cL cB tc) (TB : LamX.TabB base mg tc tP) (gA : ∃ u, mg "ANSWERERS" = some u ∧ RelV (.ref aT) u) (ST : ∀ H, SqT K H aT (refs [f0, f1, f2, f3, f4, f5, f6, f7, f8, f9, f10]))
    (m0 : mg "answer_begins" = some (.ref f0)) (m1 : mg "answer_spider" = some (.ref f1)) (m2 : mg "answer_fly" = some (.ref f2)) (m3 : mg "answer_way" = some (.ref f3)) (m4 : mg "answer_over" = some (.ref f4)) (m5 : mg "answer_many" = some (.ref f5)) (m6 : mg "answer_straight" = some (.ref f6))
    (m7 : mg "answer_farthest" = some (.ref f7)) (m8 : mg "answer_within" = some (.ref f8)) (m9 : mg "answer_faces" = some (.ref f9)) (m10 : mg "answer_state" = some (.ref f10)) (Fa : C8.Def K mg "answers" s_answers fa fd) : FnOk P w K mg base C8.CX0 14 fa fd ["calls"] (spAns K tP) := by
  have T := F.tx
  have axis := c_axis_of (P := P) (w := w) (base := base) F.d_axis_of
  have side := c_side_of (P := P) (w := w) (base := base) F.d_side_of
  have height := c_height_of (P := P) (w := w) (base := base) F.d_height_of axis
  have facesA := c_faces_at (P := P) (w := w) (base := base) F.d_faces_at T axis height
  have points := c_points_on (P := P) (w := w) (base := base) F.d_points_on T facesA
  have follow := c_can_follow (P := P) (w := w) (base := base) F.d_can_follow axis
  have isrow := c_is_row (P := P) (w := w) (base := base) F.d_is_row T follow
  have mS := m_Scale (P := P) (w := w) (base := base) F.i_Scale T
  have mE := m_Edge (P := P) (w := w) (base := base) F.i_Edge T
  have mL := m_LaidRow (P := P) (w := w) (base := base) F.i_LaidRow T
  have mB := m_Box (P := P) (w := w) (base := base) F.i_Box T
  have place := t_Scale_place (P := P) (w := w) (base := base) F.t_Scale_place T
  have first := c_first_scales (P := P) (w := w) (base := base) F.d_first_scales T axis mS
  have across := c_coordinate_across (P := P) (w := w) (base := base) F.d_coordinate_across T axis
  have edge := c_edge_towards (P := P) (w := w) (base := base) F.d_edge_towards T across place height mE
  have beyond := c_scales_beyond (P := P) (w := w) (base := base) F.d_scales_beyond T across axis side place height mS
  have alone := c_laid_alone (P := P) (w := w) (base := base) F.d_laid_alone T first mL
  have on := c_laid_on (P := P) (w := w) (base := base) F.d_laid_on T edge beyond mL
  have lay := c_lay (P := P) (w := w) (base := base) F.d_lay alone on
  have beg := c_laid_beginning (P := P) (w := w) (base := base) F.d_laid_beginning T follow on 6
  have from_ := c_laid_from (P := P) (w := w) (base := base) F.d_laid_from alone beg
  have spot := c_spot_of (P := P) (w := w) (base := base) F.d_spot_of T place
  have through := c_goes_through (P := P) (w := w) (base := base) F.d_goes_through T
  have sq := c_square_over (P := P) (w := w) (base := base) F.d_square_over T spot
  have str := c_is_straight_way (P := P) (w := w) (base := base) F.d_is_straight_way T spot through
  have short := c_shortest_square (P := P) (w := w) (base := base) F.d_shortest_square T sq str
  have told := c_told_list (P := P) (w := w) (base := base) F.d_told_list T
  have fcS := c_spider_faces (P := P) (w := w) (base := base) F.d_spider_faces T facesA
  have fcF := c_fly_faces (P := P) (w := w) (base := base) F.d_fly_faces T facesA
  have ways := c_straight_ways (P := P) (w := w) (base := base) F.d_straight_ways T fcS fcF from_ str sq
  have joins := c_joins (P := P) (w := w) (base := base) F.d_joins T fcS fcF
  have small := c_may_be_searched (P := P) (w := w) (base := base) F.d_may_be_searched T
  have squares := c_squares_from_spider (P := P) (w := w) (base := base) F.d_squares_from_spider T fcS from_ points facesA short
  have nums := c_numbers_from (P := P) (w := w) (base := base) F.d_numbers_from T
  have cend := c_call_end (P := P) (w := w) (base := base) F.d_call_end T nums
  have a0 := c_answer_begins (P := P) (w := w) (base := base) (TT := [(tP, lamQ)]) F.d_answer_begins T
  have a1 := c_answer_spider (P := P) (w := w) (base := base) (TT := [(tP, lamQ)]) F.d_answer_spider T facesA
  have a2 := c_answer_fly (P := P) (w := w) (base := base) (TT := [(tP, lamQ)]) F.d_answer_fly T facesA
  have a3 := c_answer_way (P := P) (w := w) (base := base) F.d_answer_way T TB ways told
  have a4 := c_answer_over (P := P) (w := w) (base := base) (TT := [(tP, lamQ)]) F.d_answer_over T isrow joins lay str sq
  have a5 := c_answer_many (P := P) (w := w) (base := base) (TT := [(tP, lamQ)]) F.d_answer_many T ways told
  have a6 := c_answer_straight (P := P) (w := w) (base := base) (TT := [(tP, lamQ)]) F.d_answer_straight T
  have a7 := c_answer_farthest (P := P) (w := w) (base := base) (TT := [(tP, lamQ)]) F.d_answer_farthest T small squares told
  have a8 := c_answer_within (P := P) (w := w) (base := base) (TT := [(tP, lamQ)]) F.d_answer_within T small squares
  have a9 := c_answer_faces (P := P) (w := w) (base := base) (TT := [(tP, lamQ)]) F.d_answer_faces T fcS fcF told
  have a10 := c_answer_state (P := P) (w := w) (base := base) (TT := [(tP, lamQ)]) F.d_answer_state T told
  refine fn_answers (fs := [f0, f1, f2, f3, f4, f5, f6, f7, f8, f9, f10]) Fa T gA ST rfl (fun f sp h => ?_) mB cend nums
  obtain ⟨i, hi, hf, rfl⟩ := h
  match i, hi, hf with
  | 0, _, hf => cases hf; rw [spOf_ne _ _ (by decide)]; exact calAt_of a0 m0 (by decide)
  | 1, _, hf => cases hf; rw [spOf_ne _ _ (by decide)]; exact calAt_of a1 m1 (by decide)
  | 2, _, hf => cases hf; rw [spOf_ne _ _ (by decide)]; exact calAt_of a2 m2 (by decide)
  | 3, _, hf => cases hf; exact calAt_of a3 m3 (by decide)
  | 4, _, hf => cases hf; rw [spOf_ne _ _ (by decide)]; exact calAt_of a4 m4 (by decide)
  | 5, _, hf => cases hf; rw [spOf_ne _ _ (by decide)]; exact calAt_of a5 m5 (by decide)
  | 6, _, hf => cases hf; rw [spOf_ne _ _ (by decide)]; exact calAt_of a6 m6 (by decide)
  | 7, _, hf => cases hf; rw [spOf_ne _ _ (by decide)]; exact calAt_of a7 m7 (by decide)
  | 8, _, hf => cases hf; rw [spOf_ne _ _ (by decide)]; exact calAt_of a8 m8 (by decide)
  | 9, _, hf => cases hf; rw [spOf_ne _ _ (by decide)]; exact calAt_of a9 m9 (by decide)
  | 10, _, hf => cases hf; rw [spOf_ne _ _ (by decide)]; exact calAt_of a10 m10 (by decide)
theorem last_step {K : Frg} {tP p : Addr} {H0 H : Hp} {l : List Int} (hS : Same H0 H) (hP : H tP = some (.tbl #[])) (hask : PySy73.answers_asked l = true) (hs : SqL K H0 p (l.map V.int)) :
    spAns K tP [.ref p] H (fun v H' => Dw K H' v (.list ((PySy73.answers l).map PySem.W.WData.int))) fun _ _ _ => False := by
  obtain ⟨h1, _, h3, h4⟩ := asked_fine hask
  refine ⟨p, l, rfl, hS.seq hs, fun q hq => ?_, h1, by rw [← h4]; exact h3, fun H' q hq => .lst (SqL.of hq) ?_⟩
  · rw [List.mem_singleton.mp hq]
    exact LamX.TabS.nil hP
  · rw [h4]
    exact dw_ints _
theorem all_mk {P : Program} {w : World} {fa : Addr} {K : Frg} {h : Heap} {mg : Str → Option Value} {cS cE cL cB : Addr} (X : K.In h) (G : h.Ns mainGlobals mg) (hfa : mg "answers" = some (.ref fa))
    {f_Scale___init__ : Addr} {od_Scale___init__ an_Scale___init__ : Option Addr} {sl_Scale___init__ : Array (Option Value)} {oc_Scale___init__ kV_Scale___init__ dc_Scale___init__ pm_Scale___init__ cd_Scale___init__ ct_Scale___init__ : Value}
    {f_Scale_place : Addr} {od_Scale_place an_Scale_place : Option Addr} {sl_Scale_place : Array (Option Value)} {oc_Scale_place kV_Scale_place dc_Scale_place pm_Scale_place cd_Scale_place ct_Scale_place : Value}
    {f_Edge___init__ : Addr} {od_Edge___init__ an_Edge___init__ : Option Addr} {sl_Edge___init__ : Array (Option Value)} {oc_Edge___init__ kV_Edge___init__ dc_Edge___init__ pm_Edge___init__ cd_Edge___init__ ct_Edge___init__ : Value}
    {f_LaidRow___init__ : Addr} {od_LaidRow___init__ an_LaidRow___init__ : Option Addr} {sl_LaidRow___init__ : Array (Option Value)} {oc_LaidRow___init__ kV_LaidRow___init__ dc_LaidRow___init__ pm_LaidRow___init__ cd_LaidRow___init__ ct_LaidRow___init__ : Value}
    {f_axis_of : Addr} {od_axis_of an_axis_of : Option Addr} {sl_axis_of : Array (Option Value)} {oc_axis_of kV_axis_of dc_axis_of pm_axis_of cd_axis_of ct_axis_of : Value}
    {f_side_of : Addr} {od_side_of an_side_of : Option Addr} {sl_side_of : Array (Option Value)} {oc_side_of kV_side_of dc_side_of pm_side_of cd_side_of ct_side_of : Value}
    {f_height_of : Addr} {od_height_of an_height_of : Option Addr} {sl_height_of : Array (Option Value)} {oc_height_of kV_height_of dc_height_of pm_height_of cd_height_of ct_height_of : Value}
    {f_faces_at : Addr} {od_faces_at an_faces_at : Option Addr} {sl_faces_at : Array (Option Value)} {oc_faces_at kV_faces_at dc_faces_at pm_faces_at cd_faces_at ct_faces_at : Value}
    {f_points_on : Addr} {od_points_on an_points_on : Option Addr} {sl_points_on : Array (Option Value)} {oc_points_on kV_points_on dc_points_on pm_points_on cd_points_on ct_points_on : Value}
    {f_can_follow : Addr} {od_can_follow an_can_follow : Option Addr} {sl_can_follow : Array (Option Value)} {oc_can_follow kV_can_follow dc_can_follow pm_can_follow cd_can_follow ct_can_follow : Value}
    {f_is_row : Addr} {od_is_row an_is_row : Option Addr} {sl_is_row : Array (Option Value)} {oc_is_row kV_is_row dc_is_row pm_is_row cd_is_row ct_is_row : Value}
    {f_first_scales : Addr} {od_first_scales an_first_scales : Option Addr} {sl_first_scales : Array (Option Value)} {oc_first_scales kV_first_scales dc_first_scales pm_first_scales cd_first_scales ct_first_scales : Value}
    {f_coordinate_across : Addr} {od_coordinate_across an_coordinate_across : Option Addr} {sl_coordinate_across : Array (Option Value)} {oc_coordinate_across kV_coordinate_across dc_coordinate_across pm_coordinate_across cd_coordinate_across ct_coordinate_across : Value}
    {f_edge_towards : Addr} {od_edge_towards an_edge_towards : Option Addr} {sl_edge_towards : Array (Option Value)} {oc_edge_towards kV_edge_towards dc_edge_towards pm_edge_towards cd_edge_towards ct_edge_towards : Value}
    {f_scales_beyond : Addr} {od_scales_beyond an_scales_beyond : Option Addr} {sl_scales_beyond : Array (Option Value)} {oc_scales_beyond kV_scales_beyond dc_scales_beyond pm_scales_beyond cd_scales_beyond ct_scales_beyond : Value}
    {f_laid_alone : Addr} {od_laid_alone an_laid_alone : Option Addr} {sl_laid_alone : Array (Option Value)} {oc_laid_alone kV_laid_alone dc_laid_alone pm_laid_alone cd_laid_alone ct_laid_alone : Value}
    {f_laid_on : Addr} {od_laid_on an_laid_on : Option Addr} {sl_laid_on : Array (Option Value)} {oc_laid_on kV_laid_on dc_laid_on pm_laid_on cd_laid_on ct_laid_on : Value}
    {f_lay : Addr} {od_lay an_lay : Option Addr} {sl_lay : Array (Option Value)} {oc_lay kV_lay dc_lay pm_lay cd_lay ct_lay : Value}
    {f_laid_beginning : Addr} {od_laid_beginning an_laid_beginning : Option Addr} {sl_laid_beginning : Array (Option Value)} {oc_laid_beginning kV_laid_beginning dc_laid_beginning pm_laid_beginning cd_laid_beginning ct_laid_beginning : Value}
    {f_laid_from : Addr} {od_laid_from an_laid_from : Option Addr} {sl_laid_from : Array (Option Value)} {oc_laid_from kV_laid_from dc_laid_from pm_laid_from cd_laid_from ct_laid_from : Value}
    {f_spot_of : Addr} {od_spot_of an_spot_of : Option Addr} {sl_spot_of : Array (Option Value)} {oc_spot_of kV_spot_of dc_spot_of pm_spot_of cd_spot_of ct_spot_of : Value}
    {f_goes_through : Addr} {od_goes_through an_goes_through : Option Addr} {sl_goes_through : Array (Option Value)} {oc_goes_through kV_goes_through dc_goes_through pm_goes_through cd_goes_through ct_goes_through : Value}
    {f_square_over : Addr} {od_square_over an_square_over : Option Addr} {sl_square_over : Array (Option Value)} {oc_square_over kV_square_over dc_square_over pm_square_over cd_square_over ct_square_over : Value}
    {f_is_straight_way : Addr} {od_is_straight_way an_is_straight_way : Option Addr} {sl_is_straight_way : Array (Option Value)} {oc_is_straight_way kV_is_straight_way dc_is_straight_way pm_is_straight_way cd_is_straight_way ct_is_straight_way : Value}
    {f_shortest_square : Addr} {od_shortest_square an_shortest_square : Option Addr} {sl_shortest_square : Array (Option Value)} {oc_shortest_square kV_shortest_square dc_shortest_square pm_shortest_square cd_shortest_square ct_shortest_square : Value}
    {f_Box___init__ : Addr} {od_Box___init__ an_Box___init__ : Option Addr} {sl_Box___init__ : Array (Option Value)} {oc_Box___init__ kV_Box___init__ dc_Box___init__ pm_Box___init__ cd_Box___init__ ct_Box___init__ : Value}
    {f_told_list : Addr} {od_told_list an_told_list : Option Addr} {sl_told_list : Array (Option Value)} {oc_told_list kV_told_list dc_told_list pm_told_list cd_told_list ct_told_list : Value}
    {f_answer_begins : Addr} {od_answer_begins an_answer_begins : Option Addr} {sl_answer_begins : Array (Option Value)} {oc_answer_begins kV_answer_begins dc_answer_begins pm_answer_begins cd_answer_begins ct_answer_begins : Value}
    {f_answer_spider : Addr} {od_answer_spider an_answer_spider : Option Addr} {sl_answer_spider : Array (Option Value)} {oc_answer_spider kV_answer_spider dc_answer_spider pm_answer_spider cd_answer_spider ct_answer_spider : Value}
    {f_answer_fly : Addr} {od_answer_fly an_answer_fly : Option Addr} {sl_answer_fly : Array (Option Value)} {oc_answer_fly kV_answer_fly dc_answer_fly pm_answer_fly cd_answer_fly ct_answer_fly : Value}
    {f_spider_faces : Addr} {od_spider_faces an_spider_faces : Option Addr} {sl_spider_faces : Array (Option Value)} {oc_spider_faces kV_spider_faces dc_spider_faces pm_spider_faces cd_spider_faces ct_spider_faces : Value}
    {f_fly_faces : Addr} {od_fly_faces an_fly_faces : Option Addr} {sl_fly_faces : Array (Option Value)} {oc_fly_faces kV_fly_faces dc_fly_faces pm_fly_faces cd_fly_faces ct_fly_faces : Value}
    {f_straight_ways : Addr} {od_straight_ways an_straight_ways : Option Addr} {sl_straight_ways : Array (Option Value)} {oc_straight_ways kV_straight_ways dc_straight_ways pm_straight_ways cd_straight_ways ct_straight_ways : Value}
    {f_answer_way tc_answer_way : Addr} {od_answer_way an_answer_way : Option Addr} {sl_answer_way : Array (Option Value)} {oc_answer_way kV_answer_way dc_answer_way pm_answer_way ct_answer_way : Value}
    {f_joins : Addr} {od_joins an_joins : Option Addr} {sl_joins : Array (Option Value)} {oc_joins kV_joins dc_joins pm_joins cd_joins ct_joins : Value}
    {f_answer_over : Addr} {od_answer_over an_answer_over : Option Addr} {sl_answer_over : Array (Option Value)} {oc_answer_over kV_answer_over dc_answer_over pm_answer_over cd_answer_over ct_answer_over : Value}
    {f_answer_many : Addr} {od_answer_many an_answer_many : Option Addr} {sl_answer_many : Array (Option Value)} {oc_answer_many kV_answer_many dc_answer_many pm_answer_many cd_answer_many ct_answer_many : Value}
    {f_answer_straight : Addr} {od_answer_straight an_answer_straight : Option Addr} {sl_answer_straight : Array (Option Value)} {oc_answer_straight kV_answer_straight dc_answer_straight pm_answer_straight cd_answer_straight ct_answer_straight : Value}
    {f_may_be_searched : Addr} {od_may_be_searched an_may_be_searched : Option Addr} {sl_may_be_searched : Array (Option Value)} {oc_may_be_searched kV_may_be_searched dc_may_be_searched pm_may_be_searched cd_may_be_searched ct_may_be_searched : Value}
    {f_squares_from_spider : Addr} {od_squares_from_spider an_squares_from_spider : Option Addr} {sl_squares_from_spider : Array (Option Value)} {oc_squares_from_spider kV_squares_from_spider dc_squares_from_spider pm_squares_from_spider cd_squares_from_spider ct_squares_from_spider : Value}
    {f_answer_farthest : Addr} {od_answer_farthest an_answer_farthest : Option Addr} {sl_answer_farthest : Array (Option Value)} {oc_answer_farthest kV_answer_farthest dc_answer_farthest pm_answer_farthest cd_answer_farthest ct_answer_farthest : Value}
    {f_answer_within : Addr} {od_answer_within an_answer_within : Option Addr} {sl_answer_within : Array (Option Value)} {oc_answer_within kV_answer_within dc_answer_within pm_answer_within cd_answer_within ct_answer_within : Value}
    {f_answer_faces : Addr} {od_answer_faces an_answer_faces : Option Addr} {sl_answer_faces : Array (Option Value)} {oc_answer_faces kV_answer_faces dc_answer_faces pm_answer_faces cd_answer_faces ct_answer_faces : Value}
    {f_answer_state : Addr} {od_answer_state an_answer_state : Option Addr} {sl_answer_state : Array (Option Value)} {oc_answer_state kV_answer_state dc_answer_state pm_answer_state cd_answer_state ct_answer_state : Value}
    {f_numbers_from : Addr} {od_numbers_from an_numbers_from : Option Addr} {sl_numbers_from : Array (Option Value)} {oc_numbers_from kV_numbers_from dc_numbers_from pm_numbers_from cd_numbers_from ct_numbers_from : Value}
    {f_call_end : Addr} {od_call_end an_call_end : Option Addr} {sl_call_end : Array (Option Value)} {oc_call_end kV_call_end dc_call_end pm_call_end cd_call_end ct_call_end : Value}
    {f_answers : Addr} {od_answers an_answers : Option Addr} {sl_answers : Array (Option Value)} {oc_answers kV_answers dc_answers pm_answers cd_answers ct_answers : Value}
    {t_AXES : Tok}
    {t_FACES : Tok}
    {t_LONGEST : Tok}
    {t_LONGEST_SEARCHED : Tok}
    {t_BEGINS : Tok}
    {t_SPIDER : Tok}
    {t_FLY : Tok}
    {t_OVER : Tok}
    {t_WITHIN : Tok}
    {aT tP : Addr} {tdd udd : Option Addr} {tsl usl : Array (Option Value)} {tn : Nat} {ue : Value} {uvs : Array Value}
    (acS : PySem.W.nsIn K mainGlobals "Scale" = some (some (.ref cS)))
    (pgcS : PySem.W.plainGet K cS Str.empty = true)
    (hdcS : PySem.W.hasDictIn K cS = true)
    (pocS : PySem.W.plainOver K cS = true)
    (sacS : PySem.W.findIn K (.ref cS) "__setattr__" = some (some (.builtin "object.__setattr__")))
    (mkcS : PySem.W.makesIn K cS = true)
    (kccS : PySem.W.keepIn K (.ref cS) = true)
    (ncS_axis : PySem.W.findIn K (.ref cS) "axis" = some none)
    (ncS_start : PySem.W.findIn K (.ref cS) "start" = some none)
    (ncS_sign : PySem.W.findIn K (.ref cS) "sign" = some none)
    (acE : PySem.W.nsIn K mainGlobals "Edge" = some (some (.ref cE)))
    (pgcE : PySem.W.plainGet K cE Str.empty = true)
    (hdcE : PySem.W.hasDictIn K cE = true)
    (pocE : PySem.W.plainOver K cE = true)
    (sacE : PySem.W.findIn K (.ref cE) "__setattr__" = some (some (.builtin "object.__setattr__")))
    (mkcE : PySem.W.makesIn K cE = true)
    (kccE : PySem.W.keepIn K (.ref cE) = true)
    (ncE_across : PySem.W.findIn K (.ref cE) "across" = some none)
    (ncE_where : PySem.W.findIn K (.ref cE) "where" = some none)
    (ncE_low : PySem.W.findIn K (.ref cE) "low" = some none)
    (ncE_high : PySem.W.findIn K (.ref cE) "high" = some none)
    (acL : PySem.W.nsIn K mainGlobals "LaidRow" = some (some (.ref cL)))
    (pgcL : PySem.W.plainGet K cL Str.empty = true)
    (hdcL : PySem.W.hasDictIn K cL = true)
    (pocL : PySem.W.plainOver K cL = true)
    (sacL : PySem.W.findIn K (.ref cL) "__setattr__" = some (some (.builtin "object.__setattr__")))
    (mkcL : PySem.W.makesIn K cL = true)
    (kccL : PySem.W.keepIn K (.ref cL) = true)
    (ncL_row : PySem.W.findIn K (.ref cL) "row" = some none)
    (ncL_first : PySem.W.findIn K (.ref cL) "first" = some none)
    (ncL_last : PySem.W.findIn K (.ref cL) "last" = some none)
    (ncL_edges : PySem.W.findIn K (.ref cL) "edges" = some none)
    (acB : PySem.W.nsIn K mainGlobals "Box" = some (some (.ref cB)))
    (pgcB : PySem.W.plainGet K cB Str.empty = true)
    (hdcB : PySem.W.hasDictIn K cB = true)
    (pocB : PySem.W.plainOver K cB = true)
    (sacB : PySem.W.findIn K (.ref cB) "__setattr__" = some (some (.builtin "object.__setattr__")))
    (mkcB : PySem.W.makesIn K cB = true)
    (kccB : PySem.W.keepIn K (.ref cB) = true)
    (ncB_lengths : PySem.W.findIn K (.ref cB) "lengths" = some none)
    (ncB_spider : PySem.W.findIn K (.ref cB) "spider" = some none)
    (ncB_fly : PySem.W.findIn K (.ref cB) "fly" = some none)
    (a_Scale___init__ : PySem.W.findIn K (.ref cS) "__init__" = some (some (.ref f_Scale___init__)))
    (i_Scale___init__ : PySem.W.isFn K (.ref f_Scale___init__) = true)
    (l_Scale___init__ : K.lookup f_Scale___init__ = some ⟨oc_Scale___init__, od_Scale___init__, .func (PySem.W.fnOf "__init__" "Scale.__init__" (C8.fnArgs s_Scale___init__) (C8.fnBody s_Scale___init__) (C8.fnScope s_Scale___init__) .none kV_Scale___init__ dc_Scale___init__ pm_Scale___init__ an_Scale___init__ cd_Scale___init__ ct_Scale___init__), sl_Scale___init__⟩)
    (c_Scale___init__ : PySem.W.codeIn K cd_Scale___init__ "Scale.__init__" = true)
    (k_Scale___init__ : PySem.W.keepIn K (.ref f_Scale___init__) = true)
    (a_Scale_place : PySem.W.findIn K (.ref cS) "place" = some (some (.ref f_Scale_place)))
    (i_Scale_place : PySem.W.isFn K (.ref f_Scale_place) = true)
    (l_Scale_place : K.lookup f_Scale_place = some ⟨oc_Scale_place, od_Scale_place, .func (PySem.W.fnOf "place" "Scale.place" (C8.fnArgs s_Scale_place) (C8.fnBody s_Scale_place) (C8.fnScope s_Scale_place) .none kV_Scale_place dc_Scale_place pm_Scale_place an_Scale_place cd_Scale_place ct_Scale_place), sl_Scale_place⟩)
    (c_Scale_place : PySem.W.codeIn K cd_Scale_place "Scale.place" = true)
    (k_Scale_place : PySem.W.keepIn K (.ref f_Scale_place) = true)
    (a_Edge___init__ : PySem.W.findIn K (.ref cE) "__init__" = some (some (.ref f_Edge___init__)))
    (i_Edge___init__ : PySem.W.isFn K (.ref f_Edge___init__) = true)
    (l_Edge___init__ : K.lookup f_Edge___init__ = some ⟨oc_Edge___init__, od_Edge___init__, .func (PySem.W.fnOf "__init__" "Edge.__init__" (C8.fnArgs s_Edge___init__) (C8.fnBody s_Edge___init__) (C8.fnScope s_Edge___init__) .none kV_Edge___init__ dc_Edge___init__ pm_Edge___init__ an_Edge___init__ cd_Edge___init__ ct_Edge___init__), sl_Edge___init__⟩)
    (c_Edge___init__ : PySem.W.codeIn K cd_Edge___init__ "Edge.__init__" = true)
    (k_Edge___init__ : PySem.W.keepIn K (.ref f_Edge___init__) = true)
    (a_LaidRow___init__ : PySem.W.findIn K (.ref cL) "__init__" = some (some (.ref f_LaidRow___init__)))
    (i_LaidRow___init__ : PySem.W.isFn K (.ref f_LaidRow___init__) = true)
    (l_LaidRow___init__ : K.lookup f_LaidRow___init__ = some ⟨oc_LaidRow___init__, od_LaidRow___init__, .func (PySem.W.fnOf "__init__" "LaidRow.__init__" (C8.fnArgs s_LaidRow___init__) (C8.fnBody s_LaidRow___init__) (C8.fnScope s_LaidRow___init__) .none kV_LaidRow___init__ dc_LaidRow___init__ pm_LaidRow___init__ an_LaidRow___init__ cd_LaidRow___init__ ct_LaidRow___init__), sl_LaidRow___init__⟩)
    (c_LaidRow___init__ : PySem.W.codeIn K cd_LaidRow___init__ "LaidRow.__init__" = true)
    (k_LaidRow___init__ : PySem.W.keepIn K (.ref f_LaidRow___init__) = true)
    (a_axis_of : PySem.W.nsIn K mainGlobals "axis_of" = some (some (.ref f_axis_of)))
    (l_axis_of : K.lookup f_axis_of = some ⟨oc_axis_of, od_axis_of, .func (PySem.W.fnOf "axis_of" "axis_of" (C8.fnArgs s_axis_of) (C8.fnBody s_axis_of) (C8.fnScope s_axis_of) .none kV_axis_of dc_axis_of pm_axis_of an_axis_of cd_axis_of ct_axis_of), sl_axis_of⟩)
    (c_axis_of : PySem.W.codeIn K cd_axis_of "axis_of" = true)
    (k_axis_of : PySem.W.keepIn K (.ref f_axis_of) = true)
    (a_side_of : PySem.W.nsIn K mainGlobals "side_of" = some (some (.ref f_side_of)))
    (l_side_of : K.lookup f_side_of = some ⟨oc_side_of, od_side_of, .func (PySem.W.fnOf "side_of" "side_of" (C8.fnArgs s_side_of) (C8.fnBody s_side_of) (C8.fnScope s_side_of) .none kV_side_of dc_side_of pm_side_of an_side_of cd_side_of ct_side_of), sl_side_of⟩)
    (c_side_of : PySem.W.codeIn K cd_side_of "side_of" = true)
    (k_side_of : PySem.W.keepIn K (.ref f_side_of) = true)
    (a_height_of : PySem.W.nsIn K mainGlobals "height_of" = some (some (.ref f_height_of)))
    (l_height_of : K.lookup f_height_of = some ⟨oc_height_of, od_height_of, .func (PySem.W.fnOf "height_of" "height_of" (C8.fnArgs s_height_of) (C8.fnBody s_height_of) (C8.fnScope s_height_of) .none kV_height_of dc_height_of pm_height_of an_height_of cd_height_of ct_height_of), sl_height_of⟩)
    (c_height_of : PySem.W.codeIn K cd_height_of "height_of" = true)
    (k_height_of : PySem.W.keepIn K (.ref f_height_of) = true)
    (a_faces_at : PySem.W.nsIn K mainGlobals "faces_at" = some (some (.ref f_faces_at)))
    (l_faces_at : K.lookup f_faces_at = some ⟨oc_faces_at, od_faces_at, .func (PySem.W.fnOf "faces_at" "faces_at" (C8.fnArgs s_faces_at) (C8.fnBody s_faces_at) (C8.fnScope s_faces_at) .none kV_faces_at dc_faces_at pm_faces_at an_faces_at cd_faces_at ct_faces_at), sl_faces_at⟩)
    (c_faces_at : PySem.W.codeIn K cd_faces_at "faces_at" = true)
    (k_faces_at : PySem.W.keepIn K (.ref f_faces_at) = true)
    (a_points_on : PySem.W.nsIn K mainGlobals "points_on" = some (some (.ref f_points_on)))
    (l_points_on : K.lookup f_points_on = some ⟨oc_points_on, od_points_on, .func (PySem.W.fnOf "points_on" "points_on" (C8.fnArgs s_points_on) (C8.fnBody s_points_on) (C8.fnScope s_points_on) .none kV_points_on dc_points_on pm_points_on an_points_on cd_points_on ct_points_on), sl_points_on⟩)
    (c_points_on : PySem.W.codeIn K cd_points_on "points_on" = true)
    (k_points_on : PySem.W.keepIn K (.ref f_points_on) = true)
    (a_can_follow : PySem.W.nsIn K mainGlobals "can_follow" = some (some (.ref f_can_follow)))
    (l_can_follow : K.lookup f_can_follow = some ⟨oc_can_follow, od_can_follow, .func (PySem.W.fnOf "can_follow" "can_follow" (C8.fnArgs s_can_follow) (C8.fnBody s_can_follow) (C8.fnScope s_can_follow) .none kV_can_follow dc_can_follow pm_can_follow an_can_follow cd_can_follow ct_can_follow), sl_can_follow⟩)
    (c_can_follow : PySem.W.codeIn K cd_can_follow "can_follow" = true)
    (k_can_follow : PySem.W.keepIn K (.ref f_can_follow) = true)
    (a_is_row : PySem.W.nsIn K mainGlobals "is_row" = some (some (.ref f_is_row)))
    (l_is_row : K.lookup f_is_row = some ⟨oc_is_row, od_is_row, .func (PySem.W.fnOf "is_row" "is_row" (C8.fnArgs s_is_row) (C8.fnBody s_is_row) (C8.fnScope s_is_row) .none kV_is_row dc_is_row pm_is_row an_is_row cd_is_row ct_is_row), sl_is_row⟩)
    (c_is_row : PySem.W.codeIn K cd_is_row "is_row" = true)
    (k_is_row : PySem.W.keepIn K (.ref f_is_row) = true)
    (a_first_scales : PySem.W.nsIn K mainGlobals "first_scales" = some (some (.ref f_first_scales)))
    (l_first_scales : K.lookup f_first_scales = some ⟨oc_first_scales, od_first_scales, .func (PySem.W.fnOf "first_scales" "first_scales" (C8.fnArgs s_first_scales) (C8.fnBody s_first_scales) (C8.fnScope s_first_scales) .none kV_first_scales dc_first_scales pm_first_scales an_first_scales cd_first_scales ct_first_scales), sl_first_scales⟩)
    (c_first_scales : PySem.W.codeIn K cd_first_scales "first_scales" = true)
    (k_first_scales : PySem.W.keepIn K (.ref f_first_scales) = true)
    (a_coordinate_across : PySem.W.nsIn K mainGlobals "coordinate_across" = some (some (.ref f_coordinate_across)))
    (l_coordinate_across : K.lookup f_coordinate_across = some ⟨oc_coordinate_across, od_coordinate_across, .func (PySem.W.fnOf "coordinate_across" "coordinate_across" (C8.fnArgs s_coordinate_across) (C8.fnBody s_coordinate_across) (C8.fnScope s_coordinate_across) .none kV_coordinate_across dc_coordinate_across pm_coordinate_across an_coordinate_across cd_coordinate_across ct_coordinate_across), sl_coordinate_across⟩)
    (c_coordinate_across : PySem.W.codeIn K cd_coordinate_across "coordinate_across" = true)
    (k_coordinate_across : PySem.W.keepIn K (.ref f_coordinate_across) = true)
    (a_edge_towards : PySem.W.nsIn K mainGlobals "edge_towards" = some (some (.ref f_edge_towards)))
    (l_edge_towards : K.lookup f_edge_towards = some ⟨oc_edge_towards, od_edge_towards, .func (PySem.W.fnOf "edge_towards" "edge_towards" (C8.fnArgs s_edge_towards) (C8.fnBody s_edge_towards) (C8.fnScope s_edge_towards) .none kV_edge_towards dc_edge_towards pm_edge_towards an_edge_towards cd_edge_towards ct_edge_towards), sl_edge_towards⟩)
    (c_edge_towards : PySem.W.codeIn K cd_edge_towards "edge_towards" = true)
    (k_edge_towards : PySem.W.keepIn K (.ref f_edge_towards) = true)
    (a_scales_beyond : PySem.W.nsIn K mainGlobals "scales_beyond" = some (some (.ref f_scales_beyond)))
    (l_scales_beyond : K.lookup f_scales_beyond = some ⟨oc_scales_beyond, od_scales_beyond, .func (PySem.W.fnOf "scales_beyond" "scales_beyond" (C8.fnArgs s_scales_beyond) (C8.fnBody s_scales_beyond) (C8.fnScope s_scales_beyond) .none kV_scales_beyond dc_scales_beyond pm_scales_beyond an_scales_beyond cd_scales_beyond ct_scales_beyond), sl_scales_beyond⟩)
    (c_scales_beyond : PySem.W.codeIn K cd_scales_beyond "scales_beyond" = true)
    (k_scales_beyond : PySem.W.keepIn K (.ref f_scales_beyond) = true)
    (a_laid_alone : PySem.W.nsIn K mainGlobals "laid_alone" = some (some (.ref f_laid_alone)))
    (l_laid_alone : K.lookup f_laid_alone = some ⟨oc_laid_alone, od_laid_alone, .func (PySem.W.fnOf "laid_alone" "laid_alone" (C8.fnArgs s_laid_alone) (C8.fnBody s_laid_alone) (C8.fnScope s_laid_alone) .none kV_laid_alone dc_laid_alone pm_laid_alone an_laid_alone cd_laid_alone ct_laid_alone), sl_laid_alone⟩)
    (c_laid_alone : PySem.W.codeIn K cd_laid_alone "laid_alone" = true)
    (k_laid_alone : PySem.W.keepIn K (.ref f_laid_alone) = true)
    (a_laid_on : PySem.W.nsIn K mainGlobals "laid_on" = some (some (.ref f_laid_on)))
    (l_laid_on : K.lookup f_laid_on = some ⟨oc_laid_on, od_laid_on, .func (PySem.W.fnOf "laid_on" "laid_on" (C8.fnArgs s_laid_on) (C8.fnBody s_laid_on) (C8.fnScope s_laid_on) .none kV_laid_on dc_laid_on pm_laid_on an_laid_on cd_laid_on ct_laid_on), sl_laid_on⟩)
    (c_laid_on : PySem.W.codeIn K cd_laid_on "laid_on" = true)
    (k_laid_on : PySem.W.keepIn K (.ref f_laid_on) = true)
    (a_lay : PySem.W.nsIn K mainGlobals "lay" = some (some (.ref f_lay)))
    (l_lay : K.lookup f_lay = some ⟨oc_lay, od_lay, .func (PySem.W.fnOf "lay" "lay" (C8.fnArgs s_lay) (C8.fnBody s_lay) (C8.fnScope s_lay) .none kV_lay dc_lay pm_lay an_lay cd_lay ct_lay), sl_lay⟩)
    (c_lay : PySem.W.codeIn K cd_lay "lay" = true)
    (k_lay : PySem.W.keepIn K (.ref f_lay) = true)
    (a_laid_beginning : PySem.W.nsIn K mainGlobals "laid_beginning" = some (some (.ref f_laid_beginning)))
    (l_laid_beginning : K.lookup f_laid_beginning = some ⟨oc_laid_beginning, od_laid_beginning, .func (PySem.W.fnOf "laid_beginning" "laid_beginning" (C8.fnArgs s_laid_beginning) (C8.fnBody s_laid_beginning) (C8.fnScope s_laid_beginning) .none kV_laid_beginning dc_laid_beginning pm_laid_beginning an_laid_beginning cd_laid_beginning ct_laid_beginning), sl_laid_beginning⟩)
    (c_laid_beginning : PySem.W.codeIn K cd_laid_beginning "laid_beginning" = true)
    (k_laid_beginning : PySem.W.keepIn K (.ref f_laid_beginning) = true)
    (a_laid_from : PySem.W.nsIn K mainGlobals "laid_from" = some (some (.ref f_laid_from)))
    (l_laid_from : K.lookup f_laid_from = some ⟨oc_laid_from, od_laid_from, .func (PySem.W.fnOf "laid_from" "laid_from" (C8.fnArgs s_laid_from) (C8.fnBody s_laid_from) (C8.fnScope s_laid_from) .none kV_laid_from dc_laid_from pm_laid_from an_laid_from cd_laid_from ct_laid_from), sl_laid_from⟩)
    (c_laid_from : PySem.W.codeIn K cd_laid_from "laid_from" = true)
    (k_laid_from : PySem.W.keepIn K (.ref f_laid_from) = true)
    (a_spot_of : PySem.W.nsIn K mainGlobals "spot_of" = some (some (.ref f_spot_of)))
    (l_spot_of : K.lookup f_spot_of = some ⟨oc_spot_of, od_spot_of, .func (PySem.W.fnOf "spot_of" "spot_of" (C8.fnArgs s_spot_of) (C8.fnBody s_spot_of) (C8.fnScope s_spot_of) .none kV_spot_of dc_spot_of pm_spot_of an_spot_of cd_spot_of ct_spot_of), sl_spot_of⟩)
    (c_spot_of : PySem.W.codeIn K cd_spot_of "spot_of" = true)
    (k_spot_of : PySem.W.keepIn K (.ref f_spot_of) = true)
    (a_goes_through : PySem.W.nsIn K mainGlobals "goes_through" = some (some (.ref f_goes_through)))
    (l_goes_through : K.lookup f_goes_through = some ⟨oc_goes_through, od_goes_through, .func (PySem.W.fnOf "goes_through" "goes_through" (C8.fnArgs s_goes_through) (C8.fnBody s_goes_through) (C8.fnScope s_goes_through) .none kV_goes_through dc_goes_through pm_goes_through an_goes_through cd_goes_through ct_goes_through), sl_goes_through⟩)
    (c_goes_through : PySem.W.codeIn K cd_goes_through "goes_through" = true)
    (k_goes_through : PySem.W.keepIn K (.ref f_goes_through) = true)
    (a_square_over : PySem.W.nsIn K mainGlobals "square_over" = some (some (.ref f_square_over)))
    (l_square_over : K.lookup f_square_over = some ⟨oc_square_over, od_square_over, .func (PySem.W.fnOf "square_over" "square_over" (C8.fnArgs s_square_over) (C8.fnBody s_square_over) (C8.fnScope s_square_over) .none kV_square_over dc_square_over pm_square_over an_square_over cd_square_over ct_square_over), sl_square_over⟩)
    (c_square_over : PySem.W.codeIn K cd_square_over "square_over" = true)
    (k_square_over : PySem.W.keepIn K (.ref f_square_over) = true)
    (a_is_straight_way : PySem.W.nsIn K mainGlobals "is_straight_way" = some (some (.ref f_is_straight_way)))
    (l_is_straight_way : K.lookup f_is_straight_way = some ⟨oc_is_straight_way, od_is_straight_way, .func (PySem.W.fnOf "is_straight_way" "is_straight_way" (C8.fnArgs s_is_straight_way) (C8.fnBody s_is_straight_way) (C8.fnScope s_is_straight_way) .none kV_is_straight_way dc_is_straight_way pm_is_straight_way an_is_straight_way cd_is_straight_way ct_is_straight_way), sl_is_straight_way⟩)
    (c_is_straight_way : PySem.W.codeIn K cd_is_straight_way "is_straight_way" = true)
    (k_is_straight_way : PySem.W.keepIn K (.ref f_is_straight_way) = true)
    (a_shortest_square : PySem.W.nsIn K mainGlobals "shortest_square" = some (some (.ref f_shortest_square)))
    (l_shortest_square : K.lookup f_shortest_square = some ⟨oc_shortest_square, od_shortest_square, .func (PySem.W.fnOf "shortest_square" "shortest_square" (C8.fnArgs s_shortest_square) (C8.fnBody s_shortest_square) (C8.fnScope s_shortest_square) .none kV_shortest_square dc_shortest_square pm_shortest_square an_shortest_square cd_shortest_square ct_shortest_square), sl_shortest_square⟩)
    (c_shortest_square : PySem.W.codeIn K cd_shortest_square "shortest_square" = true)
    (k_shortest_square : PySem.W.keepIn K (.ref f_shortest_square) = true)
    (a_Box___init__ : PySem.W.findIn K (.ref cB) "__init__" = some (some (.ref f_Box___init__)))
    (i_Box___init__ : PySem.W.isFn K (.ref f_Box___init__) = true)
    (l_Box___init__ : K.lookup f_Box___init__ = some ⟨oc_Box___init__, od_Box___init__, .func (PySem.W.fnOf "__init__" "Box.__init__" (C8.fnArgs s_Box___init__) (C8.fnBody s_Box___init__) (C8.fnScope s_Box___init__) .none kV_Box___init__ dc_Box___init__ pm_Box___init__ an_Box___init__ cd_Box___init__ ct_Box___init__), sl_Box___init__⟩)
    (c_Box___init__ : PySem.W.codeIn K cd_Box___init__ "Box.__init__" = true)
    (k_Box___init__ : PySem.W.keepIn K (.ref f_Box___init__) = true)
    (a_told_list : PySem.W.nsIn K mainGlobals "told_list" = some (some (.ref f_told_list)))
    (l_told_list : K.lookup f_told_list = some ⟨oc_told_list, od_told_list, .func (PySem.W.fnOf "told_list" "told_list" (C8.fnArgs s_told_list) (C8.fnBody s_told_list) (C8.fnScope s_told_list) .none kV_told_list dc_told_list pm_told_list an_told_list cd_told_list ct_told_list), sl_told_list⟩)
    (c_told_list : PySem.W.codeIn K cd_told_list "told_list" = true)
    (k_told_list : PySem.W.keepIn K (.ref f_told_list) = true)
    (a_answer_begins : PySem.W.nsIn K mainGlobals "answer_begins" = some (some (.ref f_answer_begins)))
    (l_answer_begins : K.lookup f_answer_begins = some ⟨oc_answer_begins, od_answer_begins, .func (PySem.W.fnOf "answer_begins" "answer_begins" (C8.fnArgs s_answer_begins) (C8.fnBody s_answer_begins) (C8.fnScope s_answer_begins) .none kV_answer_begins dc_answer_begins pm_answer_begins an_answer_begins cd_answer_begins ct_answer_begins), sl_answer_begins⟩)
    (c_answer_begins : PySem.W.codeIn K cd_answer_begins "answer_begins" = true)
    (k_answer_begins : PySem.W.keepIn K (.ref f_answer_begins) = true)
    (a_answer_spider : PySem.W.nsIn K mainGlobals "answer_spider" = some (some (.ref f_answer_spider)))
    (l_answer_spider : K.lookup f_answer_spider = some ⟨oc_answer_spider, od_answer_spider, .func (PySem.W.fnOf "answer_spider" "answer_spider" (C8.fnArgs s_answer_spider) (C8.fnBody s_answer_spider) (C8.fnScope s_answer_spider) .none kV_answer_spider dc_answer_spider pm_answer_spider an_answer_spider cd_answer_spider ct_answer_spider), sl_answer_spider⟩)
    (c_answer_spider : PySem.W.codeIn K cd_answer_spider "answer_spider" = true)
    (k_answer_spider : PySem.W.keepIn K (.ref f_answer_spider) = true)
    (a_answer_fly : PySem.W.nsIn K mainGlobals "answer_fly" = some (some (.ref f_answer_fly)))
    (l_answer_fly : K.lookup f_answer_fly = some ⟨oc_answer_fly, od_answer_fly, .func (PySem.W.fnOf "answer_fly" "answer_fly" (C8.fnArgs s_answer_fly) (C8.fnBody s_answer_fly) (C8.fnScope s_answer_fly) .none kV_answer_fly dc_answer_fly pm_answer_fly an_answer_fly cd_answer_fly ct_answer_fly), sl_answer_fly⟩)
    (c_answer_fly : PySem.W.codeIn K cd_answer_fly "answer_fly" = true)
    (k_answer_fly : PySem.W.keepIn K (.ref f_answer_fly) = true)
    (a_spider_faces : PySem.W.nsIn K mainGlobals "spider_faces" = some (some (.ref f_spider_faces)))
    (l_spider_faces : K.lookup f_spider_faces = some ⟨oc_spider_faces, od_spider_faces, .func (PySem.W.fnOf "spider_faces" "spider_faces" (C8.fnArgs s_spider_faces) (C8.fnBody s_spider_faces) (C8.fnScope s_spider_faces) .none kV_spider_faces dc_spider_faces pm_spider_faces an_spider_faces cd_spider_faces ct_spider_faces), sl_spider_faces⟩)
    (c_spider_faces : PySem.W.codeIn K cd_spider_faces "spider_faces" = true)
    (k_spider_faces : PySem.W.keepIn K (.ref f_spider_faces) = true)
    (a_fly_faces : PySem.W.nsIn K mainGlobals "fly_faces" = some (some (.ref f_fly_faces)))
    (l_fly_faces : K.lookup f_fly_faces = some ⟨oc_fly_faces, od_fly_faces, .func (PySem.W.fnOf "fly_faces" "fly_faces" (C8.fnArgs s_fly_faces) (C8.fnBody s_fly_faces) (C8.fnScope s_fly_faces) .none kV_fly_faces dc_fly_faces pm_fly_faces an_fly_faces cd_fly_faces ct_fly_faces), sl_fly_faces⟩)
    (c_fly_faces : PySem.W.codeIn K cd_fly_faces "fly_faces" = true)
    (k_fly_faces : PySem.W.keepIn K (.ref f_fly_faces) = true)
    (a_straight_ways : PySem.W.nsIn K mainGlobals "straight_ways" = some (some (.ref f_straight_ways)))
    (l_straight_ways : K.lookup f_straight_ways = some ⟨oc_straight_ways, od_straight_ways, .func (PySem.W.fnOf "straight_ways" "straight_ways" (C8.fnArgs s_straight_ways) (C8.fnBody s_straight_ways) (C8.fnScope s_straight_ways) .none kV_straight_ways dc_straight_ways pm_straight_ways an_straight_ways cd_straight_ways ct_straight_ways), sl_straight_ways⟩)
    (c_straight_ways : PySem.W.codeIn K cd_straight_ways "straight_ways" = true)
    (k_straight_ways : PySem.W.keepIn K (.ref f_straight_ways) = true)
    (a_answer_way : PySem.W.nsIn K mainGlobals "answer_way" = some (some (.ref f_answer_way)))
    (l_answer_way : K.lookup f_answer_way = some ⟨oc_answer_way, od_answer_way, .func (PySem.W.fnOf "answer_way" "answer_way" (C8.fnArgs s_answer_way) (C8.fnBody s_answer_way) (C8.fnScope s_answer_way) .none kV_answer_way dc_answer_way pm_answer_way an_answer_way (.ref tc_answer_way) ct_answer_way), sl_answer_way⟩)
    (c_answer_way : PySem.W.codeIn K (.ref tc_answer_way) "answer_way" = true)
    (k_answer_way : PySem.W.keepIn K (.ref f_answer_way) = true)
    (a_joins : PySem.W.nsIn K mainGlobals "joins" = some (some (.ref f_joins)))
    (l_joins : K.lookup f_joins = some ⟨oc_joins, od_joins, .func (PySem.W.fnOf "joins" "joins" (C8.fnArgs s_joins) (C8.fnBody s_joins) (C8.fnScope s_joins) .none kV_joins dc_joins pm_joins an_joins cd_joins ct_joins), sl_joins⟩)
    (c_joins : PySem.W.codeIn K cd_joins "joins" = true)
    (k_joins : PySem.W.keepIn K (.ref f_joins) = true)
    (a_answer_over : PySem.W.nsIn K mainGlobals "answer_over" = some (some (.ref f_answer_over)))
    (l_answer_over : K.lookup f_answer_over = some ⟨oc_answer_over, od_answer_over, .func (PySem.W.fnOf "answer_over" "answer_over" (C8.fnArgs s_answer_over) (C8.fnBody s_answer_over) (C8.fnScope s_answer_over) .none kV_answer_over dc_answer_over pm_answer_over an_answer_over cd_answer_over ct_answer_over), sl_answer_over⟩)
    (c_answer_over : PySem.W.codeIn K cd_answer_over "answer_over" = true)
    (k_answer_over : PySem.W.keepIn K (.ref f_answer_over) = true)
    (a_answer_many : PySem.W.nsIn K mainGlobals "answer_many" = some (some (.ref f_answer_many)))
    (l_answer_many : K.lookup f_answer_many = some ⟨oc_answer_many, od_answer_many, .func (PySem.W.fnOf "answer_many" "answer_many" (C8.fnArgs s_answer_many) (C8.fnBody s_answer_many) (C8.fnScope s_answer_many) .none kV_answer_many dc_answer_many pm_answer_many an_answer_many cd_answer_many ct_answer_many), sl_answer_many⟩)
    (c_answer_many : PySem.W.codeIn K cd_answer_many "answer_many" = true)
    (k_answer_many : PySem.W.keepIn K (.ref f_answer_many) = true)
    (a_answer_straight : PySem.W.nsIn K mainGlobals "answer_straight" = some (some (.ref f_answer_straight)))
    (l_answer_straight : K.lookup f_answer_straight = some ⟨oc_answer_straight, od_answer_straight, .func (PySem.W.fnOf "answer_straight" "answer_straight" (C8.fnArgs s_answer_straight) (C8.fnBody s_answer_straight) (C8.fnScope s_answer_straight) .none kV_answer_straight dc_answer_straight pm_answer_straight an_answer_straight cd_answer_straight ct_answer_straight), sl_answer_straight⟩)
    (c_answer_straight : PySem.W.codeIn K cd_answer_straight "answer_straight" = true)
    (k_answer_straight : PySem.W.keepIn K (.ref f_answer_straight) = true)
    (a_may_be_searched : PySem.W.nsIn K mainGlobals "may_be_searched" = some (some (.ref f_may_be_searched)))
    (l_may_be_searched : K.lookup f_may_be_searched = some ⟨oc_may_be_searched, od_may_be_searched, .func (PySem.W.fnOf "may_be_searched" "may_be_searched" (C8.fnArgs s_may_be_searched) (C8.fnBody s_may_be_searched) (C8.fnScope s_may_be_searched) .none kV_may_be_searched dc_may_be_searched pm_may_be_searched an_may_be_searched cd_may_be_searched ct_may_be_searched), sl_may_be_searched⟩)
    (c_may_be_searched : PySem.W.codeIn K cd_may_be_searched "may_be_searched" = true)
    (k_may_be_searched : PySem.W.keepIn K (.ref f_may_be_searched) = true)
    (a_squares_from_spider : PySem.W.nsIn K mainGlobals "squares_from_spider" = some (some (.ref f_squares_from_spider)))
    (l_squares_from_spider : K.lookup f_squares_from_spider = some ⟨oc_squares_from_spider, od_squares_from_spider, .func (PySem.W.fnOf "squares_from_spider" "squares_from_spider" (C8.fnArgs s_squares_from_spider) (C8.fnBody s_squares_from_spider) (C8.fnScope s_squares_from_spider) .none kV_squares_from_spider dc_squares_from_spider pm_squares_from_spider an_squares_from_spider cd_squares_from_spider ct_squares_from_spider), sl_squares_from_spider⟩)
    (c_squares_from_spider : PySem.W.codeIn K cd_squares_from_spider "squares_from_spider" = true)
    (k_squares_from_spider : PySem.W.keepIn K (.ref f_squares_from_spider) = true)
    (a_answer_farthest : PySem.W.nsIn K mainGlobals "answer_farthest" = some (some (.ref f_answer_farthest)))
    (l_answer_farthest : K.lookup f_answer_farthest = some ⟨oc_answer_farthest, od_answer_farthest, .func (PySem.W.fnOf "answer_farthest" "answer_farthest" (C8.fnArgs s_answer_farthest) (C8.fnBody s_answer_farthest) (C8.fnScope s_answer_farthest) .none kV_answer_farthest dc_answer_farthest pm_answer_farthest an_answer_farthest cd_answer_farthest ct_answer_farthest), sl_answer_farthest⟩)
    (c_answer_farthest : PySem.W.codeIn K cd_answer_farthest "answer_farthest" = true)
    (k_answer_farthest : PySem.W.keepIn K (.ref f_answer_farthest) = true)
    (a_answer_within : PySem.W.nsIn K mainGlobals "answer_within" = some (some (.ref f_answer_within)))
    (l_answer_within : K.lookup f_answer_within = some ⟨oc_answer_within, od_answer_within, .func (PySem.W.fnOf "answer_within" "answer_within" (C8.fnArgs s_answer_within) (C8.fnBody s_answer_within) (C8.fnScope s_answer_within) .none kV_answer_within dc_answer_within pm_answer_within an_answer_within cd_answer_within ct_answer_within), sl_answer_within⟩)
    (c_answer_within : PySem.W.codeIn K cd_answer_within "answer_within" = true)
    (k_answer_within : PySem.W.keepIn K (.ref f_answer_within) = true)
    (a_answer_faces : PySem.W.nsIn K mainGlobals "answer_faces" = some (some (.ref f_answer_faces)))
    (l_answer_faces : K.lookup f_answer_faces = some ⟨oc_answer_faces, od_answer_faces, .func (PySem.W.fnOf "answer_faces" "answer_faces" (C8.fnArgs s_answer_faces) (C8.fnBody s_answer_faces) (C8.fnScope s_answer_faces) .none kV_answer_faces dc_answer_faces pm_answer_faces an_answer_faces cd_answer_faces ct_answer_faces), sl_answer_faces⟩)
    (c_answer_faces : PySem.W.codeIn K cd_answer_faces "answer_faces" = true)
    (k_answer_faces : PySem.W.keepIn K (.ref f_answer_faces) = true)
    (a_answer_state : PySem.W.nsIn K mainGlobals "answer_state" = some (some (.ref f_answer_state)))
    (l_answer_state : K.lookup f_answer_state = some ⟨oc_answer_state, od_answer_state, .func (PySem.W.fnOf "answer_state" "answer_state" (C8.fnArgs s_answer_state) (C8.fnBody s_answer_state) (C8.fnScope s_answer_state) .none kV_answer_state dc_answer_state pm_answer_state an_answer_state cd_answer_state ct_answer_state), sl_answer_state⟩)
    (c_answer_state : PySem.W.codeIn K cd_answer_state "answer_state" = true)
    (k_answer_state : PySem.W.keepIn K (.ref f_answer_state) = true)
    (a_numbers_from : PySem.W.nsIn K mainGlobals "numbers_from" = some (some (.ref f_numbers_from)))
    (l_numbers_from : K.lookup f_numbers_from = some ⟨oc_numbers_from, od_numbers_from, .func (PySem.W.fnOf "numbers_from" "numbers_from" (C8.fnArgs s_numbers_from) (C8.fnBody s_numbers_from) (C8.fnScope s_numbers_from) .none kV_numbers_from dc_numbers_from pm_numbers_from an_numbers_from cd_numbers_from ct_numbers_from), sl_numbers_from⟩)
    (c_numbers_from : PySem.W.codeIn K cd_numbers_from "numbers_from" = true)
    (k_numbers_from : PySem.W.keepIn K (.ref f_numbers_from) = true)
    (a_call_end : PySem.W.nsIn K mainGlobals "call_end" = some (some (.ref f_call_end)))
    (l_call_end : K.lookup f_call_end = some ⟨oc_call_end, od_call_end, .func (PySem.W.fnOf "call_end" "call_end" (C8.fnArgs s_call_end) (C8.fnBody s_call_end) (C8.fnScope s_call_end) .none kV_call_end dc_call_end pm_call_end an_call_end cd_call_end ct_call_end), sl_call_end⟩)
    (c_call_end : PySem.W.codeIn K cd_call_end "call_end" = true)
    (k_call_end : PySem.W.keepIn K (.ref f_call_end) = true)
    (a_answers : PySem.W.nsIn K mainGlobals "answers" = some (some (.ref f_answers)))
    (l_answers : K.lookup f_answers = some ⟨oc_answers, od_answers, .func (PySem.W.fnOf "answers" "answers" (C8.fnArgs s_answers) (C8.fnBody s_answers) (C8.fnScope s_answers) .none kV_answers dc_answers pm_answers an_answers cd_answers ct_answers), sl_answers⟩)
    (c_answers : PySem.W.codeIn K cd_answers "answers" = true)
    (k_answers : PySem.W.keepIn K (.ref f_answers) = true)
    (g_AXES : PySem.W.nsIn K mainGlobals "AXES" = some (some (.int 3 t_AXES)))
    (g_FACES : PySem.W.nsIn K mainGlobals "FACES" = some (some (.int 6 t_FACES)))
    (g_LONGEST : PySem.W.nsIn K mainGlobals "LONGEST" = some (some (.int 40 t_LONGEST)))
    (g_LONGEST_SEARCHED : PySem.W.nsIn K mainGlobals "LONGEST_SEARCHED" = some (some (.int 4 t_LONGEST_SEARCHED)))
    (g_BEGINS : PySem.W.nsIn K mainGlobals "BEGINS" = some (some (.int 0 t_BEGINS)))
    (g_SPIDER : PySem.W.nsIn K mainGlobals "SPIDER" = some (some (.int 1 t_SPIDER)))
    (g_FLY : PySem.W.nsIn K mainGlobals "FLY" = some (some (.int 2 t_FLY)))
    (g_OVER : PySem.W.nsIn K mainGlobals "OVER" = some (some (.int 4 t_OVER)))
    (g_WITHIN : PySem.W.nsIn K mainGlobals "WITHIN" = some (some (.int 8 t_WITHIN)))
    (n_range : PySem.W.nsIn K mainGlobals "range" = some none)
    (n_len : PySem.W.nsIn K mainGlobals "len" = some none)
    (n_min : PySem.W.nsIn K mainGlobals "min" = some none)
    (n_max : PySem.W.nsIn K mainGlobals "max" = some none)
    (n_list : PySem.W.nsIn K mainGlobals "list" = some none)
    (n_sum : PySem.W.nsIn K mainGlobals "sum" = some none)
    (n_zip : PySem.W.nsIn K mainGlobals "zip" = some none)
    (g_ANSWERERS : PySem.W.nsIn K mainGlobals "ANSWERERS" = some (some (.ref aT)))
    (q_ANSWERERS : K.lookup aT = some ⟨.type "tuple", tdd, .seq #[.ref f_answer_begins, .ref f_answer_spider, .ref f_answer_fly, .ref f_answer_way, .ref f_answer_over, .ref f_answer_many, .ref f_answer_straight, .ref f_answer_farthest, .ref f_answer_within, .ref f_answer_faces, .ref f_answer_state] tn, tsl⟩)
    (u_W : K.lookup tc_answer_way = some ⟨ue, udd, .fields uvs, usl⟩)
    (v_W : uvs[11]? = some (.ref tP))
    (n_W : K.lookup tP = none) :
    ∃ (fd : FuncData) (f tc tP : Addr) (oW : Obj) (fdW : FuncData) (e : Value) (dd : Option Addr) (vs : Array Value) (sl : Array (Option Value)), mg "answer_way" = some (.ref f) ∧ K.lookup f = some oW ∧ oW.data = .func fdW ∧ fdW.code = .ref tc ∧ K.lookup tc = some ⟨e, dd, .fields vs, sl⟩ ∧ vs[11]? = some (.ref tP) ∧ K.lookup tP = none ∧
        (∀ (s : Shared) (us : List Value), us.length = (["calls"] : List Str).length → BindsTo s fd ⟨us, []⟩ ((["calls"] : List Str).zip us)) ∧
        ∀ base : Heap, K.In base → base.Ns mainGlobals mg → LamX.TabB base mg tc tP → FnOk P w K mg base C8.CX0 14 fa fd ["calls"] (spAns K tP) := by
  have e := hfa.symm.trans (PySem.W.mg_of X G a_answers)
  cases e
  have FF : Facts K mg cS cE cL cB tc_answer_way := facts_mk X G acS pgcS hdcS pocS sacS mkcS kccS ncS_axis ncS_start ncS_sign acE pgcE hdcE pocE sacE mkcE kccE ncE_across ncE_where ncE_low ncE_high acL pgcL hdcL pocL sacL mkcL kccL ncL_row ncL_first ncL_last ncL_edges acB pgcB hdcB pocB sacB mkcB kccB ncB_lengths ncB_spider ncB_fly a_Scale___init__ i_Scale___init__ l_Scale___init__ c_Scale___init__ k_Scale___init__ a_Scale_place i_Scale_place l_Scale_place c_Scale_place k_Scale_place a_Edge___init__ i_Edge___init__ l_Edge___init__ c_Edge___init__ k_Edge___init__ a_LaidRow___init__ i_LaidRow___init__ l_LaidRow___init__ c_LaidRow___init__ k_LaidRow___init__ a_axis_of l_axis_of c_axis_of k_axis_of a_side_of l_side_of c_side_of k_side_of a_height_of l_height_of c_height_of k_height_of a_faces_at l_faces_at c_faces_at k_faces_at a_points_on l_points_on c_points_on k_points_on a_can_follow l_can_follow c_can_follow k_can_follow a_is_row l_is_row c_is_row k_is_row a_first_scales l_first_scales c_first_scales k_first_scales a_coordinate_across l_coordinate_across c_coordinate_across k_coordinate_across a_edge_towards l_edge_towards c_edge_towards k_edge_towards a_scales_beyond l_scales_beyond c_scales_beyond k_scales_beyond a_laid_alone l_laid_alone c_laid_alone k_laid_alone a_laid_on l_laid_on c_laid_on k_laid_on a_lay l_lay c_lay k_lay a_laid_beginning l_laid_beginning c_laid_beginning k_laid_beginning a_laid_from l_laid_from c_laid_from k_laid_from a_spot_of l_spot_of c_spot_of k_spot_of a_goes_through l_goes_through c_goes_through k_goes_through a_square_over l_square_over c_square_over k_square_over a_is_straight_way l_is_straight_way c_is_straight_way k_is_straight_way a_shortest_square l_shortest_square c_shortest_square k_shortest_square a_Box___init__ i_Box___init__ l_Box___init__ c_Box___init__ k_Box___init__ a_told_list l_told_list c_told_list k_told_list a_answer_begins l_answer_begins c_answer_begins k_answer_begins a_answer_spider l_answer_spider c_answer_spider k_answer_spider a_answer_fly l_answer_fly c_answer_fly k_answer_fly a_spider_faces l_spider_faces c_spider_faces k_spider_faces a_fly_faces l_fly_faces c_fly_faces k_fly_faces a_straight_ways l_straight_ways c_straight_ways k_straight_ways a_answer_way l_answer_way c_answer_way k_answer_way a_joins l_joins c_joins k_joins a_answer_over l_answer_over c_answer_over k_answer_over a_answer_many l_answer_many c_answer_many k_answer_many a_answer_straight l_answer_straight c_answer_straight k_answer_straight a_may_be_searched l_may_be_searched c_may_be_searched k_may_be_searched a_squares_from_spider l_squares_from_spider c_squares_from_spider k_squares_from_spider a_answer_farthest l_answer_farthest c_answer_farthest k_answer_farthest a_answer_within l_answer_within c_answer_within k_answer_within a_answer_faces l_answer_faces c_answer_faces k_answer_faces a_answer_state l_answer_state c_answer_state k_answer_state a_numbers_from l_numbers_from c_numbers_from k_numbers_from a_call_end l_call_end c_call_end k_call_end a_answers l_answers c_answers k_answers g_AXES g_FACES g_LONGEST g_LONGEST_SEARCHED g_BEGINS g_SPIDER g_FLY g_OVER g_WITHIN n_range n_len n_min n_max n_list n_sum n_zip
  have gA : ∃ u, mg "ANSWERERS" = some u ∧ RelV (.ref aT) u := ⟨_, PySem.W.mg_of X G g_ANSWERERS, rfl⟩
  have ST : ∀ H, SqT K H aT (refs [f_answer_begins, f_answer_spider, f_answer_fly, f_answer_way, f_answer_over, f_answer_many, f_answer_straight, f_answer_farthest, f_answer_within, f_answer_faces, f_answer_state]) := fun H => .inr ⟨_, _, _, q_ANSWERERS, rfl, rfl, (by show 11 ≤ sizeLine; decide), (.cons rfl (.cons rfl (.cons rfl (.cons rfl (.cons rfl (.cons rfl (.cons rfl (.cons rfl (.cons rfl (.cons rfl (.cons rfl .nil)))))))))))⟩
  have Fa : C8.Fun K "answers" "answers" s_answers fa _ := ⟨⟨oc_answers, od_answers, .none, kV_answers, dc_answers, pm_answers, an_answers, cd_answers, ct_answers, sl_answers, rfl, l_answers, c_answers⟩⟩
  exact ⟨PySem.W.fnOf "answers" "answers" (C8.fnArgs s_answers) (C8.fnBody s_answers) (C8.fnScope s_answers) .none kV_answers dc_answers pm_answers an_answers cd_answers ct_answers, f_answer_way, tc_answer_way, tP, _, _, ue, udd, uvs, usl, PySem.W.mg_of X G a_answer_way, l_answer_way, rfl, rfl, u_W, v_W, n_W, fun s us hu => match us, hu with | [_], _ => .of_eq rfl, fun base _ _ TB => all_fn FF TB gA ST (PySem.W.mg_of X G a_answer_begins) (PySem.W.mg_of X G a_answer_spider) (PySem.W.mg_of X G a_answer_fly) (PySem.W.mg_of X G a_answer_way) (PySem.W.mg_of X G a_answer_over) (PySem.W.mg_of X G a_answer_many) (PySem.W.mg_of X G a_answer_straight) (PySem.W.mg_of X G a_answer_farthest) (PySem.W.mg_of X G a_answer_within) (PySem.W.mg_of X G a_answer_faces) (PySem.W.mg_of X G a_answer_state) ⟨Fa, hfa, k_answers⟩⟩
end SF

/-! ## WM -/
set_option Elab.async false
set_option maxRecDepth 100000
open PySem PySem.W PyProof.Rows
set_option maxRecDepth 100000 in
set_option maxHeartbeats 0 in
theorem PySem.Challenge.cw_spiderfly_s01_answers_holds : PySem.Challenge.rw_spiderfly_s01_answers.Holds := by
  w_on; k_headS; (case hw => exact ⟨[.list [.int 3]], by decide +kernel, by decide +kernel⟩)
  k_fillS
  refine SF.walk_specT (r := PySem.Challenge.rw_spiderfly_s01_answers) (k := 14) (CX := C8.CX0) (ps := ["calls"]) (sp := SF.spAns) (nm := "answer_way") (by decide +kernel) rfl rfl ⟨rfl, by decide, by decide⟩ ?R (fun w h Y => PySem.W.kIn_of Y) ?F ?S (fun _ _ _ _ z => z)
  case R => first | rfl | decide +kernel
  case F =>
    intro w mg fa h Y KX G hmg
    refine' SF.all_mk KX G hmg ?acS ?pgcS ?hdcS ?pocS ?sacS ?mkcS ?kccS ?ncS_axis ?ncS_start ?ncS_sign ?acE ?pgcE ?hdcE ?pocE ?sacE ?mkcE ?kccE ?ncE_across ?ncE_where ?ncE_low ?ncE_high ?acL ?pgcL ?hdcL ?pocL ?sacL ?mkcL ?kccL ?ncL_row ?ncL_first ?ncL_last ?ncL_edges ?acB ?pgcB ?hdcB ?pocB ?sacB ?mkcB ?kccB ?ncB_lengths ?ncB_spider ?ncB_fly ?a_Scale___init__ ?i_Scale___init__ ?l_Scale___init__ ?c_Scale___init__ ?k_Scale___init__ ?a_Scale_place ?i_Scale_place ?l_Scale_place ?c_Scale_place ?k_Scale_place ?a_Edge___init__ ?i_Edge___init__ ?l_Edge___init__ ?c_Edge___init__ ?k_Edge___init__ ?a_LaidRow___init__ ?i_LaidRow___init__ ?l_LaidRow___init__ ?c_LaidRow___init__ ?k_LaidRow___init__ ?a_axis_of ?l_axis_of ?c_axis_of ?k_axis_of ?a_side_of ?l_side_of ?c_side_of ?k_side_of ?a_height_of ?l_height_of ?c_height_of ?k_height_of ?a_faces_at ?l_faces_at ?c_faces_at ?k_faces_at ?a_points_on ?l_points_on ?c_points_on ?k_points_on ?a_can_follow ?l_can_follow ?c_can_follow ?k_can_follow ?a_is_row ?l_is_row ?c_is_row ?k_is_row ?a_first_scales ?l_first_scales ?c_first_scales ?k_first_scales ?a_coordinate_across ?l_coordinate_across ?c_coordinate_across ?k_coordinate_across ?a_edge_towards ?l_edge_towards ?c_edge_towards ?k_edge_towards ?a_scales_beyond ?l_scales_beyond ?c_scales_beyond ?k_scales_beyond ?a_laid_alone ?l_laid_alone ?c_laid_alone ?k_laid_alone ?a_laid_on ?l_laid_on ?c_laid_on ?k_laid_on ?a_lay ?l_lay ?c_lay ?k_lay ?a_laid_beginning ?l_laid_beginning ?c_laid_beginning ?k_laid_beginning ?a_laid_from ?l_laid_from ?c_laid_from ?k_laid_from ?a_spot_of ?l_spot_of ?c_spot_of ?k_spot_of ?a_goes_through ?l_goes_through ?c_goes_through ?k_goes_through ?a_square_over ?l_square_over ?c_square_over ?k_square_over ?a_is_straight_way ?l_is_straight_way ?c_is_straight_way ?k_is_straight_way ?a_shortest_square ?l_shortest_square ?c_shortest_square ?k_shortest_square ?a_Box___init__ ?i_Box___init__ ?l_Box___init__ ?c_Box___init__ ?k_Box___init__ ?a_told_list ?l_told_list ?c_told_list ?k_told_list ?a_answer_begins ?l_answer_begins ?c_answer_begins ?k_answer_begins ?a_answer_spider ?l_answer_spider ?c_answer_spider ?k_answer_spider ?a_answer_fly ?l_answer_fly ?c_answer_fly ?k_answer_fly ?a_spider_faces ?l_spider_faces ?c_spider_faces ?k_spider_faces ?a_fly_faces ?l_fly_faces ?c_fly_faces ?k_fly_faces ?a_straight_ways ?l_straight_ways ?c_straight_ways ?k_straight_ways ?a_answer_way ?l_answer_way ?c_answer_way ?k_answer_way ?a_joins ?l_joins ?c_joins ?k_joins ?a_answer_over ?l_answer_over ?c_answer_over ?k_answer_over ?a_answer_many ?l_answer_many ?c_answer_many ?k_answer_many ?a_answer_straight ?l_answer_straight ?c_answer_straight ?k_answer_straight ?a_may_be_searched ?l_may_be_searched ?c_may_be_searched ?k_may_be_searched ?a_squares_from_spider ?l_squares_from_spider ?c_squares_from_spider ?k_squares_from_spider ?a_answer_farthest ?l_answer_farthest ?c_answer_farthest ?k_answer_farthest ?a_answer_within ?l_answer_within ?c_answer_within ?k_answer_within ?a_answer_faces ?l_answer_faces ?c_answer_faces ?k_answer_faces ?a_answer_state ?l_answer_state ?c_answer_state ?k_answer_state ?a_numbers_from ?l_numbers_from ?c_numbers_from ?k_numbers_from ?a_call_end ?l_call_end ?c_call_end ?k_call_end ?a_answers ?l_answers ?c_answers ?k_answers ?g_AXES ?g_FACES ?g_LONGEST ?g_LONGEST_SEARCHED ?g_BEGINS ?g_SPIDER ?g_FLY ?g_OVER ?g_WITHIN ?n_range ?n_len ?n_min ?n_max ?n_list ?n_sum ?n_zip ?g_ANSWERERS ?q_ANSWERERS ?u_W ?v_W ?n_W
    (case acS => k_is)
    (case pgcS => k_is)
    (case hdcS => k_is)
    (case pocS => k_is)
    (case sacS => k_is)
    (case mkcS => k_is)
    (case kccS => k_is)
    (case ncS_axis => k_is)
    (case ncS_start => k_is)
    (case ncS_sign => k_is)
    (case acE => k_is)
    (case pgcE => k_is)
    (case hdcE => k_is)
    (case pocE => k_is)
    (case sacE => k_is)
    (case mkcE => k_is)
    (case kccE => k_is)
    (case ncE_across => k_is)
    (case ncE_where => k_is)
    (case ncE_low => k_is)
    (case ncE_high => k_is)
    (case acL => k_is)
    (case pgcL => k_is)
    (case hdcL => k_is)
    (case pocL => k_is)
    (case sacL => k_is)
    (case mkcL => k_is)
    (case kccL => k_is)
    (case ncL_row => k_is)
    (case ncL_first => k_is)
    (case ncL_last => k_is)
    (case ncL_edges => k_is)
    (case acB => k_is)
    (case pgcB => k_is)
    (case hdcB => k_is)
    (case pocB => k_is)
    (case sacB => k_is)
    (case mkcB => k_is)
    (case kccB => k_is)
    (case ncB_lengths => k_is)
    (case ncB_spider => k_is)
    (case ncB_fly => k_is)
    (case a_Scale___init__ => k_is)
    (case i_Scale___init__ => k_is)
    (case l_Scale___init__ => k_is)
    (case c_Scale___init__ => k_is)
    (case k_Scale___init__ => k_is)
    (case a_Scale_place => k_is)
    (case i_Scale_place => k_is)
    (case l_Scale_place => k_is)
    (case c_Scale_place => k_is)
    (case k_Scale_place => k_is)
    (case a_Edge___init__ => k_is)
    (case i_Edge___init__ => k_is)
    (case l_Edge___init__ => k_is)
    (case c_Edge___init__ => k_is)
    (case k_Edge___init__ => k_is)
    (case a_LaidRow___init__ => k_is)
    (case i_LaidRow___init__ => k_is)
    (case l_LaidRow___init__ => k_is)
    (case c_LaidRow___init__ => k_is)
    (case k_LaidRow___init__ => k_is)
    (case a_axis_of => k_is)
    (case l_axis_of => k_is)
    (case c_axis_of => k_is)
    (case k_axis_of => k_is)
    (case a_side_of => k_is)
    (case l_side_of => k_is)
    (case c_side_of => k_is)
    (case k_side_of => k_is)
    (case a_height_of => k_is)
    (case l_height_of => k_is)
    (case c_height_of => k_is)
    (case k_height_of => k_is)
    (case a_faces_at => k_is)
    (case l_faces_at => k_is)
    (case c_faces_at => k_is)
    (case k_faces_at => k_is)
    (case a_points_on => k_is)
    (case l_points_on => k_is)
    (case c_points_on => k_is)
    (case k_points_on => k_is)
    (case a_can_follow => k_is)
    (case l_can_follow => k_is)
    (case c_can_follow => k_is)
    (case k_can_follow => k_is)
    (case a_is_row => k_is)
    (case l_is_row => k_is)
    (case c_is_row => k_is)
    (case k_is_row => k_is)
    (case a_first_scales => k_is)
    (case l_first_scales => k_is)
    (case c_first_scales => k_is)
    (case k_first_scales => k_is)
    (case a_coordinate_across => k_is)
    (case l_coordinate_across => k_is)
    (case c_coordinate_across => k_is)
    (case k_coordinate_across => k_is)
    (case a_edge_towards => k_is)
    (case l_edge_towards => k_is)
    (case c_edge_towards => k_is)
    (case k_edge_towards => k_is)
    (case a_scales_beyond => k_is)
    (case l_scales_beyond => k_is)
    (case c_scales_beyond => k_is)
    (case k_scales_beyond => k_is)
    (case a_laid_alone => k_is)
    (case l_laid_alone => k_is)
    (case c_laid_alone => k_is)
    (case k_laid_alone => k_is)
    (case a_laid_on => k_is)
    (case l_laid_on => k_is)
    (case c_laid_on => k_is)
    (case k_laid_on => k_is)
    (case a_lay => k_is)
    (case l_lay => k_is)
    (case c_lay => k_is)
    (case k_lay => k_is)
    (case a_laid_beginning => k_is)
    (case l_laid_beginning => k_is)
    (case c_laid_beginning => k_is)
    (case k_laid_beginning => k_is)
    (case a_laid_from => k_is)
    (case l_laid_from => k_is)
    (case c_laid_from => k_is)
    (case k_laid_from => k_is)
    (case a_spot_of => k_is)
    (case l_spot_of => k_is)
    (case c_spot_of => k_is)
    (case k_spot_of => k_is)
    (case a_goes_through => k_is)
    (case l_goes_through => k_is)
    (case c_goes_through => k_is)
    (case k_goes_through => k_is)
    (case a_square_over => k_is)
    (case l_square_over => k_is)
    (case c_square_over => k_is)
    (case k_square_over => k_is)
    (case a_is_straight_way => k_is)
    (case l_is_straight_way => k_is)
    (case c_is_straight_way => k_is)
    (case k_is_straight_way => k_is)
    (case a_shortest_square => k_is)
    (case l_shortest_square => k_is)
    (case c_shortest_square => k_is)
    (case k_shortest_square => k_is)
    (case a_Box___init__ => k_is)
    (case i_Box___init__ => k_is)
    (case l_Box___init__ => k_is)
    (case c_Box___init__ => k_is)
    (case k_Box___init__ => k_is)
    (case a_told_list => k_is)
    (case l_told_list => k_is)
    (case c_told_list => k_is)
    (case k_told_list => k_is)
    (case a_answer_begins => k_is)
    (case l_answer_begins => k_is)
    (case c_answer_begins => k_is)
    (case k_answer_begins => k_is)
    (case a_answer_spider => k_is)
    (case l_answer_spider => k_is)
    (case c_answer_spider => k_is)
    (case k_answer_spider => k_is)
    (case a_answer_fly => k_is)
    (case l_answer_fly => k_is)
    (case c_answer_fly => k_is)
    (case k_answer_fly => k_is)
    (case a_spider_faces => k_is)
    (case l_spider_faces => k_is)
    (case c_spider_faces => k_is)
    (case k_spider_faces => k_is)
    (case a_fly_faces => k_is)
    (case l_fly_faces => k_is)
    (case c_fly_faces => k_is)
    (case k_fly_faces => k_is)
    (case a_straight_ways => k_is)
    (case l_straight_ways => k_is)
    (case c_straight_ways => k_is)
    (case k_straight_ways => k_is)
    (case a_answer_way => k_is)
    (case l_answer_way => k_is)
    (case c_answer_way => k_is)
    (case k_answer_way => k_is)
    (case a_joins => k_is)
    (case l_joins => k_is)
    (case c_joins => k_is)
    (case k_joins => k_is)
    (case a_answer_over => k_is)
    (case l_answer_over => k_is)
    (case c_answer_over => k_is)
    (case k_answer_over => k_is)
    (case a_answer_many => k_is)
    (case l_answer_many => k_is)
    (case c_answer_many => k_is)
    (case k_answer_many => k_is)
    (case a_answer_straight => k_is)
    (case l_answer_straight => k_is)
    (case c_answer_straight => k_is)
    (case k_answer_straight => k_is)
    (case a_may_be_searched => k_is)
    (case l_may_be_searched => k_is)
    (case c_may_be_searched => k_is)
    (case k_may_be_searched => k_is)
    (case a_squares_from_spider => k_is)
    (case l_squares_from_spider => k_is)
    (case c_squares_from_spider => k_is)
    (case k_squares_from_spider => k_is)
    (case a_answer_farthest => k_is)
    (case l_answer_farthest => k_is)
    (case c_answer_farthest => k_is)
    (case k_answer_farthest => k_is)
    (case a_answer_within => k_is)
    (case l_answer_within => k_is)
    (case c_answer_within => k_is)
    (case k_answer_within => k_is)
    (case a_answer_faces => k_is)
    (case l_answer_faces => k_is)
    (case c_answer_faces => k_is)
    (case k_answer_faces => k_is)
    (case a_answer_state => k_is)
    (case l_answer_state => k_is)
    (case c_answer_state => k_is)
    (case k_answer_state => k_is)
    (case a_numbers_from => k_is)
    (case l_numbers_from => k_is)
    (case c_numbers_from => k_is)
    (case k_numbers_from => k_is)
    (case a_call_end => k_is)
    (case l_call_end => k_is)
    (case c_call_end => k_is)
    (case k_call_end => k_is)
    (case a_answers => k_is)
    (case l_answers => k_is)
    (case c_answers => k_is)
    (case k_answers => k_is)
    (case g_AXES => k_is)
    (case g_FACES => k_is)
    (case g_LONGEST => k_is)
    (case g_LONGEST_SEARCHED => k_is)
    (case g_BEGINS => k_is)
    (case g_SPIDER => k_is)
    (case g_FLY => k_is)
    (case g_OVER => k_is)
    (case g_WITHIN => k_is)
    (case n_range => k_is)
    (case n_len => k_is)
    (case n_min => k_is)
    (case n_max => k_is)
    (case n_list => k_is)
    (case n_sum => k_is)
    (case n_zip => k_is)
    (case g_ANSWERERS => k_is)
    (case q_ANSWERERS => k_is)
    (case u_W => k_is)
    (case v_W => exact rfl)
    (case n_W => first | exact rfl | k_is)
  case S =>
    intro K tP H0 H xs a hS hP hwi hask hx
    cases hx with
    | cons h1 h2 =>
      cases h2
      cases h1 with
      | lst hs ha =>
        have e := L2.ints_dw a.1 _ ha
        subst e
        exact SF.last_step hS hP hask hs
