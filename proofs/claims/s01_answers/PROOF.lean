import PyProof.Rows.All
import Wide.All
import OpenK.AllK
import Wide.FinOn
import PyProof.EqAt
import PyProof.EqKinds
import PyProof.TupleCall
import Open.SpecLaws
import KE.OsGo
import HandS.ForSpec
import HandS.Wide
import HandS.Comp
import HandS.Iter
import PySem.Challenge.RW_tallpost_s01_answers
set_option Elab.async false
set_option maxRecDepth 100000
set_option maxHeartbeats 2000000
namespace TP
open Kqy3
/-- what lowest() hands back -/
def low (a b : Int) : Int × Int :=
  let g : Int := Nat.gcd a.natAbs b.natAbs
  let s := if b < 0 then -g else g
  (a.fdiv s, b.fdiv s)
theorem gcd_pos {a b : Int} (h : b ≠ 0) : 0 < Nat.gcd a.natAbs b.natAbs :=
  Nat.gcd_pos_of_pos_right _ (by omega)
/-- the fraction's own facts -/
structure Is (x y a b : Int) : Prop where
  pos : 0 < y
  cop : Nat.gcd x.natAbs y.natAbs = 1
  eq : x * b = a * y
theorem Is.unique {x y x' y' a b c d : Int} (hb : b ≠ 0) (hd : d ≠ 0) (h : Is x y a b) (h' : Is x' y' c d) (e : a * d = c * b) : x = x' ∧ y = y' := by
  have e1 : x * y' = x' * y := by
    have hbd : b * d ≠ 0 := Int.mul_ne_zero hb hd
    have := h.eq
    have := h'.eq
    have k : (x * y') * (b * d) = (x' * y) * (b * d) := by grind
    exact Int.eq_of_mul_eq_mul_right hbd k
  have n1 : x.natAbs * y'.natAbs = x'.natAbs * y.natAbs := by
    rw [← Int.natAbs_mul, ← Int.natAbs_mul, e1]
  have c1 : Nat.Coprime x.natAbs y.natAbs := h.cop
  have c2 : Nat.Coprime x'.natAbs y'.natAbs := h'.cop
  have d1 : y.natAbs ∣ y'.natAbs := c1.symm.dvd_of_dvd_mul_left ⟨x'.natAbs, by rw [n1, Nat.mul_comm]⟩
  have d2 : y'.natAbs ∣ y.natAbs := c2.symm.dvd_of_dvd_mul_left ⟨x.natAbs, by rw [← n1, Nat.mul_comm]⟩
  have ey := Nat.dvd_antisymm d1 d2
  have ey' : y = y' := by have := h.pos; have := h'.pos; omega
  refine ⟨?_, ey'⟩
  rw [ey'] at e1
  exact Int.eq_of_mul_eq_mul_right (by have := h'.pos; omega) e1
theorem low_is {a b : Int} (hb : b ≠ 0) : Is (low a b).1 (low a b).2 a b := by
  have gp := gcd_pos (a := a) hb
  obtain ⟨p, hp⟩ : ((Nat.gcd a.natAbs b.natAbs : Nat) : Int) ∣ a := Int.gcd_dvd_left _ _
  obtain ⟨q, hq⟩ : ((Nat.gcd a.natAbs b.natAbs : Nat) : Int) ∣ b := Int.gcd_dvd_right _ _
  have cop : Nat.gcd p.natAbs q.natAbs = 1 := by
    have h1 : a.natAbs = Nat.gcd a.natAbs b.natAbs * p.natAbs := by
      conv => lhs; rw [hp]
      rw [Int.natAbs_mul, Int.natAbs_natCast]
    have h2 : b.natAbs = Nat.gcd a.natAbs b.natAbs * q.natAbs := by
      conv => lhs; rw [hq]
      rw [Int.natAbs_mul, Int.natAbs_natCast]
    have h3 := Nat.gcd_mul_left (Nat.gcd a.natAbs b.natAbs) p.natAbs q.natAbs
    rw [← h1, ← h2] at h3
    exact Nat.eq_of_mul_eq_mul_left gp (by omega)
  generalize hg : Nat.gcd a.natAbs b.natAbs = g at *
  have gi : (0 : Int) < g := by omega
  unfold low
  simp only [hg]
  by_cases c : b < 0
  · rw [if_pos c]
    have e1 : a.fdiv (-(g : Int)) = -p := by
      rw [hp, show (g : Int) * p = (-p) * (-(g : Int)) by grind]
      exact Int.mul_fdiv_cancel _ (by omega)
    have e2 : b.fdiv (-(g : Int)) = -q := by
      rw [hq, show (g : Int) * q = (-q) * (-(g : Int)) by grind]
      exact Int.mul_fdiv_cancel _ (by omega)
    simp only [e1, e2]
    have qn : q < 0 := by
      rw [hq] at c
      exact Int.neg_of_mul_neg_right c (by omega)
    refine ⟨by omega, by rw [Int.natAbs_neg, Int.natAbs_neg]; exact cop, ?_⟩
    rw [hp, hq]; grind
  · rw [if_neg c]
    have e1 : a.fdiv (g : Int) = p := by
      rw [hp, Int.mul_comm]
      exact Int.mul_fdiv_cancel _ (by omega)
    have e2 : b.fdiv (g : Int) = q := by
      rw [hq, Int.mul_comm]
      exact Int.mul_fdiv_cancel _ (by omega)
    simp only [e1, e2]
    have qn : 0 < q := by
      have : 0 < (g : Int) * q := by rw [← hq]; omega
      exact Int.pos_of_mul_pos_right this (by omega)
    refine ⟨qn, cop, ?_⟩
    rw [hp, hq]; grind
theorem frac_low {a b : Int} (hb : b ≠ 0) : frac a b = [(low a b).1, (low a b).2] := by
  have gp := gcd_pos (a := a) hb
  obtain ⟨p, hp⟩ : ((Nat.gcd a.natAbs b.natAbs : Nat) : Int) ∣ a := Int.gcd_dvd_left _ _
  obtain ⟨q, hq⟩ : ((Nat.gcd a.natAbs b.natAbs : Nat) : Int) ∣ b := Int.gcd_dvd_right _ _
  unfold frac low
  generalize hg : Nat.gcd a.natAbs b.natAbs = g at *
  have gi : (0 : Int) < g := by omega
  have ea : a / (g : Int) = p := by rw [hp]; exact Int.mul_ediv_cancel_left _ (by omega)
  have eb : b / (g : Int) = q := by rw [hq]; exact Int.mul_ediv_cancel_left _ (by omega)
  have ga : a.fdiv (g : Int) = p := by rw [hp, Int.mul_comm]; exact Int.mul_fdiv_cancel _ (by omega)
  have gb : b.fdiv (g : Int) = q := by rw [hq, Int.mul_comm]; exact Int.mul_fdiv_cancel _ (by omega)
  have na : a.fdiv (-(g : Int)) = -p := by
    rw [hp, show (g : Int) * p = (-p) * (-(g : Int)) by grind]
    exact Int.mul_fdiv_cancel _ (by omega)
  have nb : b.fdiv (-(g : Int)) = -q := by
    rw [hq, show (g : Int) * q = (-q) * (-(g : Int)) by grind]
    exact Int.mul_fdiv_cancel _ (by omega)
  rw [if_neg (show ¬ (g : Int) = 0 by omega)]
  by_cases c : b < 0
  · simp only [if_pos c, ea, eb, na, nb]
  · simp only [if_neg c, ea, eb, ga, gb]
theorem low_eq {a b c d : Int} (hb : b ≠ 0) (hd : d ≠ 0) (e : a * d = c * b) : low a b = low c d := by
  have h := (low_is (a := a) hb).unique hb hd (low_is (a := c) hd) e
  exact Prod.ext h.1 h.2
theorem frac_eq {a b c d : Int} (hb : b ≠ 0) (hd : d ≠ 0) (e : a * d = c * b) : frac a b = frac c d := by
  rw [frac_low hb, frac_low hd, low_eq hb hd e]
end TP
namespace TP
open Kqy3
/-- what rise() hands back, of points whose third number is 1 -/
def riseP (up f t : Pt) : Int × Int :=
  if up.1 - up.2.2 * t.1 ≠ 0 then (f.1 - t.1, up.1 - up.2.2 * t.1) else (f.2.1 - t.2.1, up.2.1 - up.2.2 * t.2.1)
theorem alike_iff {p q : Pt} : alike p q = true ↔ cross p q = (0, 0, 0) := by
  obtain ⟨a, b, c⟩ := p
  obtain ⟨d, e, f⟩ := q
  simp [alike, zero, cross, and_assoc]
theorem alike_false {p q : Pt} : alike p q = false ↔ cross p q ≠ (0, 0, 0) := by
  rw [← Bool.not_eq_true, alike_iff]
structure Up (f t up : Pt) : Prop where
  f1 : f.2.2 = 1
  t1 : t.2.2 = 1
  de : det f t up = 0
  tu : alike t up = false
theorem Up.rise {s : Scene} {f t : Pt} (h : Up f t s.up) :
    (riseP s.up f t).2 ≠ 0 ∧ (rise s f t).2 ≠ 0 ∧ (riseP s.up f t).1 * (rise s f t).2 = (rise s f t).1 * (riseP s.up f t).2 := by
  obtain ⟨l, ⟨p, q, r⟩, pf, ph, n⟩ := s
  obtain ⟨x, y, z⟩ := f
  obtain ⟨u, v, w⟩ := t
  obtain ⟨h1, h2, h3, h4⟩ := h
  simp only at h1 h2
  subst h1 h2
  rw [alike_false] at h4
  simp only [det, cross, dot, ne_eq, Prod.mk.injEq, not_and] at h3 h4
  simp only [riseP, Kqy3.rise, cross, ne_eq]
  by_cases c1 : p - r * u = 0
  · have c2 : q - r * v ≠ 0 := by
      intro c2
      exact h4 (by grind) (by grind) (by grind)
    have c3 : q * 1 - r * v ≠ 0 := by grind
    simp only [c1, not_true_eq_false, if_false, c3, not_false_eq_true, if_true]
    refine ⟨c2, trivial, by grind⟩
  · simp only [c1, not_false_eq_true, if_true]
    refine ⟨trivial, ?_⟩
    by_cases c3 : q * 1 - r * v = 0
    · have c4 : r * u - p * 1 ≠ 0 := by grind
      simp only [c3, not_true_eq_false, if_false, c4, not_false_eq_true, if_true]
      refine ⟨trivial, by grind⟩
    · simp only [c3, not_false_eq_true, if_true]
      refine ⟨trivial, by grind⟩
/-- a rise that is no 0: head and foot are two -/
theorem Up.rise_ne {f t up : Pt} (h : Up f t up) (d : alike f t = false) : (riseP up f t).1 ≠ 0 := by
  obtain ⟨p, q, r⟩ := up
  obtain ⟨x, y, z⟩ := f
  obtain ⟨u, v, w⟩ := t
  obtain ⟨h1, h2, h3, h4⟩ := h
  simp only at h1 h2
  subst h1 h2
  rw [alike_false] at h4 d
  simp only [det, cross, dot, ne_eq, Prod.mk.injEq, not_and] at h3 h4 d
  simp only [riseP, ne_eq]
  by_cases c1 : p - r * u = 0
  · simp only [c1, not_true_eq_false, if_false]
    intro e
    have hy : y = v := by omega
    subst hy
    have c2 : q - r * y ≠ 0 := by
      intro c2
      exact h4 (by grind) (by grind) (by grind)
    have : (x - u) * (q - r * y) = 0 := by grind
    rcases Int.mul_eq_zero.mp this with k | k
    · have : x = u := by omega
      subst this
      exact d (by grind) (by grind) (by grind)
    · exact c2 k
  · simp only [c1, not_false_eq_true, if_true]
    intro e
    have hx : x = u := by omega
    subst hx
    have : (y - v) * (p - r * x) = 0 := by grind
    rcases Int.mul_eq_zero.mp this with k | k
    · have : y = v := by omega
      subst this
      exact d (by grind) (by grind) (by grind)
    · exact c1 k
/-- if two fractions are one and the first's above is no 0, so is the second's -/
theorem above_ne {a b c d : Int} (hb : b ≠ 0) (hd : d ≠ 0) (e : a * d = c * b) (ha : a ≠ 0) : c ≠ 0 := by
  intro hc
  rw [hc, Int.zero_mul] at e
  rcases Int.mul_eq_zero.mp e with k | k
  · exact ha k
  · exact hd k
/-- what scale() hands back -/
def scaleP (s : Scene) : Int × Int := (s.high * dot s.l s.foot * (riseP s.up s.foot s.head).2, (riseP s.up s.foot s.head).1)
def measP (s : Scene) (f t : Pt) : Int × Int :=
  ((riseP s.up f t).1 * (scaleP s).1, (riseP s.up f t).2 * (scaleP s).2 * dot s.l f)
def eyeP (s : Scene) : Int × Int := ((scaleP s).1, (scaleP s).2 * dot s.l s.up)
def headP (s : Scene) (f : Pt) (p q : Int) : Pt :=
  let a := p * dot s.l f * (scaleP s).2
  let b := q * (scaleP s).1
  (b * f.1 - a * s.up.1, b * f.2.1 - a * s.up.2.1, b * f.2.2 - a * s.up.2.2)
structure Ok (s : Scene) : Prop where
  up : Up s.foot s.head s.up
  ne : alike s.foot s.head = false
  lf : dot s.l s.foot ≠ 0
  lu : dot s.l s.up ≠ 0
  hi : s.high ≠ 0
theorem meas_eq {s : Scene} {f t : Pt} (o : Ok s) (u : Up f t s.up) (lf : dot s.l f ≠ 0) :
    (measP s f t).2 ≠ 0 ∧ (height s f t).2 ≠ 0 ∧ (measP s f t).1 * (height s f t).2 = (height s f t).1 * (measP s f t).2 := by
  obtain ⟨a1, a2, a3⟩ := u.rise (s := s)
  obtain ⟨b1, b2, b3⟩ := o.up.rise (s := s)
  have b4 := o.up.rise_ne o.ne
  have b5 := above_ne b1 b2 b3 b4
  simp only [measP, height, scaleP]
  generalize rise s f t = r1 at *
  generalize rise s s.foot s.head = r2 at *
  generalize riseP s.up f t = r3 at *
  generalize riseP s.up s.foot s.head = r4 at *
  refine ⟨Int.mul_ne_zero (Int.mul_ne_zero a1 b4) lf, Int.mul_ne_zero (Int.mul_ne_zero a2 b5) lf, ?_⟩
  generalize dot s.l s.foot = F at *
  generalize dot s.l f = G at *
  generalize s.high = n at *
  have : (r3.1 * r2.1 * r4.2 * r1.2) = r1.1 * r3.2 * r2.2 * r4.1 := by grind
  grind
theorem eye_eq {s : Scene} (o : Ok s) :
    (eyeP s).2 ≠ 0 ∧ (eye s).2 ≠ 0 ∧ (eyeP s).1 * (eye s).2 = (eye s).1 * (eyeP s).2 := by
  obtain ⟨b1, b2, b3⟩ := o.up.rise (s := s)
  have b4 := o.up.rise_ne o.ne
  have b5 := above_ne b1 b2 b3 b4
  simp only [eyeP, eye, scaleP]
  generalize rise s s.foot s.head = r2 at *
  generalize riseP s.up s.foot s.head = r4 at *
  refine ⟨Int.mul_ne_zero b4 o.lu, Int.mul_ne_zero b5 o.lu, ?_⟩
  generalize dot s.l s.foot = F at *
  generalize dot s.l s.up = G at *
  generalize s.high = n at *
  grind
/-- points up to a factor: place says the same -/
theorem place_eq {p q : Pt} {k m : Int} (hk : k ≠ 0) (hm : m ≠ 0) (e : times k p = times m q) : place p = place q := by
  obtain ⟨a, b, c⟩ := p
  obtain ⟨d, f, g⟩ := q
  simp only [times, Prod.mk.injEq] at e
  obtain ⟨e1, e2, e3⟩ := e
  simp only [place]
  by_cases hc : c = 0
  · subst hc
    have : g = 0 := by
      rw [Int.mul_zero] at e3
      rcases Int.mul_eq_zero.mp e3.symm with z | z
      · exact absurd z hm
      · exact z
    simp [this]
  · have hg : g ≠ 0 := by
      intro z
      rw [z, Int.mul_zero] at e3
      rcases Int.mul_eq_zero.mp e3 with z | z
      · exact hk z
      · exact hc z
    rw [if_neg hc, if_neg hg]
    have km : k * m ≠ 0 := Int.mul_ne_zero hk hm
    rw [frac_eq (a := a) hc hg (c := d) (by
      apply Int.eq_of_mul_eq_mul_right km
      grind), frac_eq (a := b) hc hg (c := f) (by
      apply Int.eq_of_mul_eq_mul_right km
      grind)]
/-- of two ways to tell how high (p by q, p' by q') that are one fraction -/
theorem head_eq {s : Scene} {f : Pt} {p q p' q' : Int} (o : Ok s) (hq : q ≠ 0) (hq' : q' ≠ 0) (e : p * q' = p' * q) :
    place (headP s f p q) = place (headOf s f p' q') := by
  obtain ⟨b1, b2, b3⟩ := o.up.rise (s := s)
  have b4 := o.up.rise_ne o.ne
  have b5 := above_ne b1 b2 b3 b4
  refine place_eq (k := q' * (rise s s.foot s.head).1) (m := q * (riseP s.up s.foot s.head).1) (Int.mul_ne_zero hq' b5) (Int.mul_ne_zero hq b4) ?_
  simp only [headP, headOf, scaleP, times, plus]
  generalize rise s s.foot s.head = r2 at *
  generalize riseP s.up s.foot s.head = r4 at *
  generalize dot s.l s.foot = F at *
  generalize dot s.l f = G at *
  generalize s.high = n at *
  obtain ⟨x, y, z⟩ := f
  obtain ⟨u, v, w⟩ := s.up
  simp only [Prod.mk.injEq]
  refine ⟨?_, ?_, ?_⟩ <;> grind
end TP
namespace TP
open Kqy3
theorem shape_cases {p : Int} {k j : Nat} (h : PyKqy3.shape p = some (k, j)) : j = 0 ∧ ((p = 0 ∧ k = 0) ∨ (p = 1 ∧ k = 3) ∨ (p = 2 ∧ k = 3) ∨ (p = 3 ∧ k = 5) ∨ (p = 4 ∧ k = 0) ∨ (p = 5 ∧ k = 4) ∨ (p = 6 ∧ k = 0) ∨ (p = 7 ∧ k = 4) ∨ (p = 8 ∧ k = 8) ∨ (p = 9 ∧ k = 2) ∨ (p = 10 ∧ k = 6) ∨ (p = 11 ∧ k = 5) ∨ (p = 12 ∧ k = 4) ∨ (p = 13 ∧ k = 4) ∨ (p = 14 ∧ k = 0)) := by
  unfold PyKqy3.shape at h
  by_cases e0 : p = 0
  · rw [if_pos e0] at h
    injection h with h
    injection h with h1 h2
    exact ⟨h2.symm, .inl ⟨e0, h1.symm⟩⟩
  rw [if_neg e0] at h
  by_cases e1 : p = 1
  · rw [if_pos e1] at h
    injection h with h
    injection h with h1 h2
    exact ⟨h2.symm, .inr (.inl ⟨e1, h1.symm⟩)⟩
  rw [if_neg e1] at h
  by_cases e2 : p = 2
  · rw [if_pos e2] at h
    injection h with h
    injection h with h1 h2
    exact ⟨h2.symm, .inr (.inr (.inl ⟨e2, h1.symm⟩))⟩
  rw [if_neg e2] at h
  by_cases e3 : p = 3
  · rw [if_pos e3] at h
    injection h with h
    injection h with h1 h2
    exact ⟨h2.symm, .inr (.inr (.inr (.inl ⟨e3, h1.symm⟩)))⟩
  rw [if_neg e3] at h
  by_cases e4 : p = 4
  · rw [if_pos e4] at h
    injection h with h
    injection h with h1 h2
    exact ⟨h2.symm, .inr (.inr (.inr (.inr (.inl ⟨e4, h1.symm⟩))))⟩
  rw [if_neg e4] at h
  by_cases e5 : p = 5
  · rw [if_pos e5] at h
    injection h with h
    injection h with h1 h2
    exact ⟨h2.symm, .inr (.inr (.inr (.inr (.inr (.inl ⟨e5, h1.symm⟩)))))⟩
  rw [if_neg e5] at h
  by_cases e6 : p = 6
  · rw [if_pos e6] at h
    injection h with h
    injection h with h1 h2
    exact ⟨h2.symm, .inr (.inr (.inr (.inr (.inr (.inr (.inl ⟨e6, h1.symm⟩))))))⟩
  rw [if_neg e6] at h
  by_cases e7 : p = 7
  · rw [if_pos e7] at h
    injection h with h
    injection h with h1 h2
    exact ⟨h2.symm, .inr (.inr (.inr (.inr (.inr (.inr (.inr (.inl ⟨e7, h1.symm⟩)))))))⟩
  rw [if_neg e7] at h
  by_cases e8 : p = 8
  · rw [if_pos e8] at h
    injection h with h
    injection h with h1 h2
    exact ⟨h2.symm, .inr (.inr (.inr (.inr (.inr (.inr (.inr (.inr (.inl ⟨e8, h1.symm⟩))))))))⟩
  rw [if_neg e8] at h
  by_cases e9 : p = 9
  · rw [if_pos e9] at h
    injection h with h
    injection h with h1 h2
    exact ⟨h2.symm, .inr (.inr (.inr (.inr (.inr (.inr (.inr (.inr (.inr (.inl ⟨e9, h1.symm⟩)))))))))⟩
  rw [if_neg e9] at h
  by_cases e10 : p = 10
  · rw [if_pos e10] at h
    injection h with h
    injection h with h1 h2
    exact ⟨h2.symm, .inr (.inr (.inr (.inr (.inr (.inr (.inr (.inr (.inr (.inr (.inl ⟨e10, h1.symm⟩))))))))))⟩
  rw [if_neg e10] at h
  by_cases e11 : p = 11
  · rw [if_pos e11] at h
    injection h with h
    injection h with h1 h2
    exact ⟨h2.symm, .inr (.inr (.inr (.inr (.inr (.inr (.inr (.inr (.inr (.inr (.inr (.inl ⟨e11, h1.symm⟩)))))))))))⟩
  rw [if_neg e11] at h
  by_cases e12 : p = 12
  · rw [if_pos e12] at h
    injection h with h
    injection h with h1 h2
    exact ⟨h2.symm, .inr (.inr (.inr (.inr (.inr (.inr (.inr (.inr (.inr (.inr (.inr (.inr (.inl ⟨e12, h1.symm⟩))))))))))))⟩
  rw [if_neg e12] at h
  by_cases e13 : p = 13
  · rw [if_pos e13] at h
    injection h with h
    injection h with h1 h2
    exact ⟨h2.symm, .inr (.inr (.inr (.inr (.inr (.inr (.inr (.inr (.inr (.inr (.inr (.inr (.inr (.inl ⟨e13, h1.symm⟩)))))))))))))⟩
  rw [if_neg e13] at h
  by_cases e14 : p = 14
  · rw [if_pos e14] at h
    injection h with h
    injection h with h1 h2
    exact ⟨h2.symm, .inr (.inr (.inr (.inr (.inr (.inr (.inr (.inr (.inr (.inr (.inr (.inr (.inr (.inr ⟨e14, h1.symm⟩)))))))))))))⟩
  rw [if_neg e14] at h
  cases h
theorem calls_cons {f : Nat} {p : Int} {r : List Int} {raw : List (List (List Int))} (h : PyFlat.calls PyKqy3.shape f (p :: r) = some raw) :
    ∃ k raw' f', PyKqy3.shape p = some (k, 0) ∧ k ≤ r.length ∧ raw = [p :: r.take k] :: raw' ∧ PyFlat.calls PyKqy3.shape f' (r.drop k) = some raw' := by
  cases f with
  | zero => cases h
  | succ f =>
    unfold PyFlat.calls PyFlat.call at h
    simp only at h
    cases hs : PyKqy3.shape p with
    | none =>
      rw [hs] at h
      cases h
    | some x =>
      obtain ⟨k, j⟩ := x
      obtain ⟨rfl, _⟩ := shape_cases hs
      rw [hs] at h
      simp only [PyFlat.rows] at h
      by_cases hl : r.length < k
      · rw [if_pos hl] at h
        cases h
      · rw [if_neg hl] at h
        simp only at h
        cases hc : PyFlat.calls PyKqy3.shape f (r.drop k) with
        | none =>
          rw [hc] at h
          cases h
        | some cs =>
          rw [hc] at h
          simp only [Option.some.injEq] at h
          exact ⟨k, cs, f, rfl, by omega, h.symm, hc⟩
theorem calls_nil {f : Nat} {raw : List (List (List Int))} (h : PyFlat.calls PyKqy3.shape f [] = some raw) : raw = [] := by
  cases f <;> (simp only [PyFlat.calls, Option.some.injEq] at h; exact h.symm)
theorem len0 {xs : List Int} (h : xs.length = 0) : xs = [] := List.length_eq_zero_iff.mp h
theorem len2 {xs : List Int} (h : xs.length = 2) : ∃ a b, xs = [a, b] := match xs, h with | [a, b], _ => ⟨a, b, rfl⟩
theorem len3 {xs : List Int} (h : xs.length = 3) : ∃ a b c, xs = [a, b, c] := match xs, h with | [a, b, c], _ => ⟨a, b, c, rfl⟩
theorem len4 {xs : List Int} (h : xs.length = 4) : ∃ a b c d, xs = [a, b, c, d] := match xs, h with | [a, b, c, d], _ => ⟨a, b, c, d, rfl⟩
theorem len5 {xs : List Int} (h : xs.length = 5) : ∃ a b c d e, xs = [a, b, c, d, e] := match xs, h with | [a, b, c, d, e], _ => ⟨a, b, c, d, e, rfl⟩
theorem len6 {xs : List Int} (h : xs.length = 6) : ∃ a b c d e f, xs = [a, b, c, d, e, f] := match xs, h with | [a, b, c, d, e, f], _ => ⟨a, b, c, d, e, f, rfl⟩
theorem len8 {xs : List Int} (h : xs.length = 8) : ∃ a b c d e f g i, xs = [a, b, c, d, e, f, g, i] := match xs, h with | [a, b, c, d, e, f, g, i], _ => ⟨a, b, c, d, e, f, g, i, rfl⟩
/-- of a call in form: it is as the document has it; ahead of a start -11; behind one the state goes on -/
theorem call_facts {p : Int} {k : Nat} {xs : List Int} (h : PyKqy3.shape p = some (k, 0)) (hl : xs.length = k) :
    PyKqy3.whole [p :: xs] = [p :: xs] ∧ (p ≠ 0 → Kqy3Neutral.step none [p :: xs] = (none, [-11])) ∧ ∀ st, ∃ st', (Kqy3Neutral.step (some st) [p :: xs]).1 = some st' := by
  obtain ⟨_, h⟩ := shape_cases h
  rcases h with ⟨rfl, rfl⟩ | ⟨rfl, rfl⟩ | ⟨rfl, rfl⟩ | ⟨rfl, rfl⟩ | ⟨rfl, rfl⟩ | ⟨rfl, rfl⟩ | ⟨rfl, rfl⟩ | ⟨rfl, rfl⟩ | ⟨rfl, rfl⟩ | ⟨rfl, rfl⟩ | ⟨rfl, rfl⟩ | ⟨rfl, rfl⟩ | ⟨rfl, rfl⟩ | ⟨rfl, rfl⟩ | ⟨rfl, rfl⟩
  · obtain rfl := len0 hl
    exact ⟨rfl, fun z => absurd rfl z, fun st => ⟨_, rfl⟩⟩
  · obtain ⟨a, b, c, rfl⟩ := len3 hl
    refine ⟨rfl, fun _ => rfl, fun st => ?_⟩
    simp only [Kqy3Neutral.step, Kqy3Neutral.callOf, Kqy3.step]
    split <;> exact ⟨_, rfl⟩
  · obtain ⟨a, b, c, rfl⟩ := len3 hl
    refine ⟨rfl, fun _ => rfl, fun st => ?_⟩
    simp only [Kqy3Neutral.step, Kqy3Neutral.callOf, Kqy3.step]
    split <;> exact ⟨_, rfl⟩
  · obtain ⟨a, b, c, d, e, rfl⟩ := len5 hl
    refine ⟨rfl, fun _ => rfl, fun st => ?_⟩
    simp only [Kqy3Neutral.step, Kqy3Neutral.callOf, Kqy3.step]
    split <;> exact ⟨_, rfl⟩
  · obtain rfl := len0 hl
    exact ⟨rfl, fun _ => rfl, fun st => ⟨_, rfl⟩⟩
  · obtain ⟨a, b, c, d, rfl⟩ := len4 hl
    exact ⟨rfl, fun _ => rfl, fun st => ⟨_, rfl⟩⟩
  · obtain rfl := len0 hl
    exact ⟨rfl, fun _ => rfl, fun st => ⟨_, rfl⟩⟩
  · obtain ⟨a, b, c, d, rfl⟩ := len4 hl
    exact ⟨rfl, fun _ => rfl, fun st => ⟨_, rfl⟩⟩
  · obtain ⟨a, b, c, d, e, f, g, i, rfl⟩ := len8 hl
    exact ⟨rfl, fun _ => rfl, fun st => ⟨_, rfl⟩⟩
  · obtain ⟨a, b, rfl⟩ := len2 hl
    exact ⟨rfl, fun _ => rfl, fun st => ⟨_, rfl⟩⟩
  · obtain ⟨a, b, c, d, e, f, rfl⟩ := len6 hl
    exact ⟨rfl, fun _ => rfl, fun st => ⟨_, rfl⟩⟩
  · obtain ⟨a, b, c, d, e, rfl⟩ := len5 hl
    exact ⟨rfl, fun _ => rfl, fun st => ⟨_, rfl⟩⟩
  · obtain ⟨a, b, c, d, rfl⟩ := len4 hl
    exact ⟨rfl, fun _ => rfl, fun st => ⟨_, rfl⟩⟩
  · obtain ⟨a, b, c, d, rfl⟩ := len4 hl
    exact ⟨rfl, fun _ => rfl, fun st => ⟨_, rfl⟩⟩
  · obtain rfl := len0 hl
    exact ⟨rfl, fun _ => rfl, fun st => ⟨_, rfl⟩⟩
def run (s : Option State) (raw : List (List (List Int))) : List Int := PyFlat.told (PyFlat.played Kqy3Neutral.step s (raw.map PyKqy3.whole))
theorem run_cons {s : Option State} {c : List (List Int)} {raw : List (List (List Int))} (h : PyKqy3.whole c = c) :
    run s (c :: raw) = (((Kqy3Neutral.step s c).2.length : Int) :: (Kqy3Neutral.step s c).2) ++ run (Kqy3Neutral.step s c).1 raw := by
  unfold run
  rw [List.map_cons, h]
  rfl
theorem answers_run {l : List Int} {raw : List (List (List Int))} (h : PyFlat.calls PyKqy3.shape l.length l = some raw) : PyKqy3.answers l = run none raw := by
  unfold PyKqy3.answers PyKqy3.calls
  rw [h]
  rfl
theorem asked_raw {l : List Int} (h : PyKqy3.answers_asked l = true) : ∃ raw, PyFlat.calls PyKqy3.shape l.length l = some raw ∧ (PyKqy3.answers l).length ≤ 10000000 := by
  unfold PyKqy3.answers_asked at h
  cases hc : PyFlat.calls PyKqy3.shape l.length l with
  | none =>
    rw [hc] at h
    cases h
  | some raw =>
    rw [hc] at h
    simp only [Bool.and_eq_true] at h
    refine ⟨raw, rfl, ?_⟩
    have k := h.2
    unfold PyFlat.short at k
    exact of_decide_eq_true k
end TP
namespace TP
open Kqy3
theorem low_le {a b : Int} (hb : b ≠ 0) : (low a b).1.natAbs ≤ a.natAbs ∧ (low a b).2.natAbs ≤ b.natAbs := by
  obtain ⟨hp, hc, he⟩ := low_is (a := a) hb
  have c1 : Nat.Coprime (low a b).1.natAbs (low a b).2.natAbs := hc
  have n1 : (low a b).1.natAbs * b.natAbs = a.natAbs * (low a b).2.natAbs := by
    rw [← Int.natAbs_mul, ← Int.natAbs_mul, he]
  refine ⟨?_, ?_⟩
  · by_cases ha : a = 0
    · subst ha
      rw [Int.zero_mul] at he
      rcases Int.mul_eq_zero.mp he with k | k
      · rw [k]
        exact Nat.zero_le _
      · exact absurd k hb
    · have d : (low a b).1.natAbs ∣ a.natAbs := c1.dvd_of_dvd_mul_right ⟨b.natAbs, n1.symm⟩
      exact Nat.le_of_dvd (by omega) d
  · have d : (low a b).2.natAbs ∣ b.natAbs := c1.symm.dvd_of_dvd_mul_left ⟨a.natAbs, by rw [n1, Nat.mul_comm]⟩
    exact Nat.le_of_dvd (by omega) d
theorem low_frac {a b c d : Int} (hb : b ≠ 0) (e : a * d = c * b) : (low a b).1 * d = c * (low a b).2 := by
  have he := (low_is (a := a) hb).eq
  apply Int.eq_of_mul_eq_mul_right hb
  grind
theorem low_ne {a b : Int} (hb : b ≠ 0) (ha : a ≠ 0) : (low a b).1 ≠ 0 := by
  obtain ⟨hp, hc, he⟩ := low_is (a := a) hb
  intro z
  rw [z, Int.zero_mul] at he
  rcases Int.mul_eq_zero.mp he.symm with k | k
  · exact ha k
  · omega
def one2 (e : Int) : Int := if e = 0 then 0 else if 0 < e then 1 else 2
theorem sgn {u v S T : Int} (hS : 0 < S) (hT : 0 < T) (e : u * S = v * T) : (u = 0 ↔ v = 0) ∧ (0 < u ↔ 0 < v) := by
  have key : ∀ {u v S T : Int}, 0 < S → 0 < T → u * S = v * T → 0 < u → 0 < v := by
    intro u v S T hS hT e hu
    apply Classical.byContradiction
    intro hv
    have h1 : 0 < u * S := Int.mul_pos hu hS
    have h2 : 0 ≤ (-v) * T := Int.mul_nonneg (by omega) (by omega)
    rw [Int.neg_mul] at h2
    omega
  have kz : ∀ {u v S T : Int}, 0 < T → u * S = v * T → u = 0 → v = 0 := by
    intro u v S T hT e hu
    rw [hu, Int.zero_mul] at e
    rcases Int.mul_eq_zero.mp e.symm with k | k
    · exact k
    · omega
  exact ⟨⟨kz hT e, kz hS e.symm⟩, ⟨key hS hT e, key hT hS e.symm⟩⟩
theorem more_one2 {x y h1 h2 : Int × Int} (p1 : 0 < x.2) (p2 : 0 < y.2) (n1 : h1.2 ≠ 0) (n2 : h2.2 ≠ 0) (e1 : x.1 * h1.2 = h1.1 * x.2) (e2 : y.1 * h2.2 = h2.1 * y.2) :
    more h1 h2 = one2 (x.1 * y.2 - y.1 * x.2) := by
  have hD : h1.2 * h2.2 ≠ 0 := Int.mul_ne_zero n1 n2
  have hT : 0 < (h1.2 * h2.2) * (h1.2 * h2.2) := by
    rcases Int.lt_or_gt_of_ne hD with k | k
    · exact Int.mul_pos_of_neg_of_neg k k
    · exact Int.mul_pos k k
  have hS : 0 < x.2 * y.2 := Int.mul_pos p1 p2
  have key : (h1.1 * h2.2 * (h1.2 * h2.2) - h2.1 * h1.2 * (h1.2 * h2.2)) * (x.2 * y.2) = (x.1 * y.2 - y.1 * x.2) * ((h1.2 * h2.2) * (h1.2 * h2.2)) := by grind
  obtain ⟨s1, s2⟩ := sgn hS hT key
  unfold more one2
  simp only
  generalize h1.1 * h2.2 * (h1.2 * h2.2) = a at *
  generalize h2.1 * h1.2 * (h1.2 * h2.2) = b at *
  generalize x.1 * y.2 - y.1 * x.2 = e at *
  have q1 : (a = b) ↔ (e = 0) := ⟨fun c => s1.mp (by omega), fun z => by have := s1.mpr z; omega⟩
  have q2 : (b < a) ↔ (0 < e) := ⟨fun c => s2.mp (by omega), fun z => by have := s2.mpr z; omega⟩
  by_cases c : e = 0
  · rw [if_pos c, if_pos (q1.mpr c)]
  · rw [if_neg (fun z => c (q1.mp z))]
    rw [if_neg c]
    by_cases d : 0 < e
    · rw [if_pos d, if_pos (q2.mpr d)]
    · rw [if_neg (fun z => d (q2.mp z)), if_neg d]
theorem side_one2 {a b : Int} (hb : b ≠ 0) : (if a = 0 then (0 : Int) else if 0 < a * b then 1 else 2) = one2 (a * b) := by
  unfold one2
  by_cases c : a = 0
  · rw [if_pos c, if_pos (by rw [c, Int.zero_mul])]
  · rw [if_neg c, if_neg (Int.mul_ne_zero c hb)]
theorem alike_pt {u v a b : Int} : alike (pt u v) (pt a b) = true ↔ (u = a ∧ v = b) := by
  rw [alike_iff]
  simp only [cross, pt, Prod.mk.injEq]
  constructor
  · rintro ⟨h1, h2, h3⟩
    exact ⟨by omega, by omega⟩
  · rintro ⟨rfl, rfl⟩
    refine ⟨by omega, by omega, ?_⟩
    rw [Int.mul_comm v u]
    omega
/-- how high the post would be -/
theorem rule_eq {z : Scene} {f t : Pt} {n : Int} (o : Ok z) (u : Up f t z.up) (lf : dot z.l f ≠ 0) (ne : alike f t = false) :
    (low (measP z f t).1 (measP z f t).2).1 ≠ 0 ∧
    ratio (height ⟨z.l, z.up, f, t, n⟩ z.foot z.head) = [(low (n * z.high * (low (measP z f t).1 (measP z f t).2).2) (low (measP z f t).1 (measP z f t).2).1).1, (low (n * z.high * (low (measP z f t).1 (measP z f t).2).2) (low (measP z f t).1 (measP z f t).2).1).2] := by
  obtain ⟨h1, h2, h3⟩ := meas_eq o u lf
  obtain ⟨a1, a2, a3⟩ := u.rise (s := z)
  have a4 := u.rise_ne ne
  have a5 := above_ne a1 a2 a3 a4
  obtain ⟨b1, b2, b3⟩ := o.up.rise (s := z)
  have nz : (measP z f t).1 ≠ 0 := Int.mul_ne_zero a4 (Int.mul_ne_zero (Int.mul_ne_zero o.hi o.lf) b1)
  have ln := low_ne h1 nz
  have k := low_frac h1 h3
  refine ⟨ln, ?_⟩
  have e : height ⟨z.l, z.up, f, t, n⟩ z.foot z.head = (n * ((rise z z.foot z.head).1 * (rise z f t).2 * dot z.l f), (rise z z.foot z.head).2 * (rise z f t).1 * dot z.l z.foot) := rfl
  have hb : (rise z z.foot z.head).2 * (rise z f t).1 * dot z.l z.foot ≠ 0 := Int.mul_ne_zero (Int.mul_ne_zero b2 a5) o.lf
  unfold ratio
  rw [e]
  simp only
  rw [frac_low hb]
  have k2 : (low (measP z f t).1 (measP z f t).2).1 * ((rise z f t).2 * (rise z z.foot z.head).1 * dot z.l f) = z.high * ((rise z f t).1 * (rise z z.foot z.head).2 * dot z.l z.foot) * (low (measP z f t).1 (measP z f t).2).2 := k
  rw [low_eq hb ln]
  generalize (low (measP z f t).1 (measP z f t).2).1 = x at *
  generalize (low (measP z f t).1 (measP z f t).2).2 = y at *
  generalize rise z f t = r1 at *
  generalize rise z z.foot z.head = r2 at *
  generalize dot z.l z.foot = F at *
  generalize dot z.l f = G at *
  generalize z.high = m at *
  clear k h3 e a3 b3
  grind
end TP
/-! ### The layer: own rules, steps through a reading -/
namespace TW
open PySem PySem.Spec PyProof.Rows L2
/-! a def and its promise, by its name -/
structure DF (K : PySem.W.Frag) (mg : Str → Option Value) (name : Str) (st : Stmt) (ps : List Str) : Prop where
  ex : ∃ f fd, Fun K name name st f fd ∧ Binds K fd ps [] ∧ mg name = some (.ref f)
structure MF (K : PySem.W.Frag) (C : Addr) (name qual : Str) (st : Stmt) (ps : List Str) : Prop where
  ex : ∃ f fd, Fun K name qual st f fd ∧ Binds K fd ps [] ∧ Meth K C name f
structure Cal (P : Program) (w : World) (K : PySem.W.Frag) (mg : Str → Option Value) (base : Heap) (k : Nat) (name : Str) (sp : Sp) : Prop where
  ex : ∃ f fd ps, FnOk P w K mg base CX0 k f fd ps sp ∧ PySem.W.keepIn K (.ref f) = true ∧ Binds K fd ps [] ∧ mg name = some (.ref f)
structure MCal (P : Program) (w : World) (K : PySem.W.Frag) (mg : Str → Option Value) (base : Heap) (k : Nat) (C : Addr) (name : Str) (sp : Sp) : Prop where
  ex : ∃ f fd ps, FnOk P w K mg base CX0 k f fd ps sp ∧ Binds K fd ps [] ∧ Meth K C name f
section
variable {P : Program} {w : World} {K : PySem.W.Frag} {mg : Str → Option Value} {base : Heap}
theorem DF.cal {name : Str} {st : Stmt} {ps N : List Str} {k : Nat} {sp : Sp} (d : DF K mg name st ps) (S : FnScope N ps (defScope st)) (len : ∀ vs H Q E, sp vs H Q E → vs.length = ps.length)
    (hbody : ∀ (f : Addr) (cdv : Value) (A : Around) (outer : List Env) (s : Shared) (H : Hp) (vs : List V) (Q : VK) (E : XK), Room k (A.deeper (envOfC name (defScope st) s.heap.objs.size f cdv)) → sp vs H Q E →
      ∃ t, PSs (cxOf CX0 P w K mg base N name (defScope st) f cdv A outer s H E).nox (defBody st) t ∧ t { nx := fun _ H' => Q .non H', rt := Q } (start N vs) H) : Cal P w K mg base (k + 1) name sp := by
  obtain ⟨f, fd, F, b, g⟩ := d.ex
  exact ⟨f, fd, ps, F.ok S len (fun cdv A outer s H vs Q E hr h => hbody f cdv A outer s H vs Q E hr h), F.kp, b, g⟩
theorem MF.cal {C : Addr} {name qual : Str} {st : Stmt} {ps N : List Str} {k : Nat} {sp : Sp} (d : MF K C name qual st ps) (S : FnScope N ps (defScope st)) (len : ∀ vs H Q E, sp vs H Q E → vs.length = ps.length)
    (hbody : ∀ (f : Addr) (cdv : Value) (A : Around) (outer : List Env) (s : Shared) (H : Hp) (vs : List V) (Q : VK) (E : XK), Room k (A.deeper (envOfC qual (defScope st) s.heap.objs.size f cdv)) → sp vs H Q E →
      ∃ t, PSs (cxOf CX0 P w K mg base N qual (defScope st) f cdv A outer s H E).nox (defBody st) t ∧ t { nx := fun _ H' => Q .non H', rt := Q } (start N vs) H) : MCal P w K mg base (k + 1) C name sp := by
  obtain ⟨f, fd, F, b, g⟩ := d.ex
  exact ⟨f, fd, ps, F.ok S len (fun cdv A outer s H vs Q E hr h => hbody f cdv A outer s H vs Q E hr h), b, g⟩
end
/-! calls by these -/
def tCal (sp : Sp) (t : TA) : TE := fun σ H Q => t σ H fun vs H1 => sp vs H1 Q E0
def tMet (C : Addr) (m : Str) (sp : Sp) (ta : TE) (t : TA) : TE := fun σ H Q => ta σ H fun x H1 => ∃ a dx fs, x = .ref a ∧ H1 a = some (.ins C dx fs) ∧ fs.lookup m = none ∧ t σ H1 fun vs H2 => sp (x :: vs) H2 Q E0
section
variable {X : Cx} {k : Nat} {x m : Str} {sp : Sp} {p pos apos : Pos} {o e : Expr} {es : List Expr} {t : TA} {ta : TE} {C : Addr}
theorem app_nil_sp {sp : Sp} {Q : VK} : (fun (vs : List V) (H1 : Hp) => sp (vs ++ []) H1 Q E0) = fun vs H1 => sp vs H1 Q E0 := by
  funext vs H1
  rw [List.append_nil]
theorem pe_cal (c : Cal X.prog X.w X.K X.mg X.base k x sp) (hr : Room k X.A) (hg : Gl X x) (ha : PA X (e :: es) t)
    (hdb : (x == ("__debug__" : Str)) = false := by decide) (he : starEach (e :: es) X.env = (false, eval e X.env) :: starEach es X.env := by rfl) (hpl : (backTo pos (starEach es X.env)).any (·.1) = false := by rfl) :
    PE X (.Call (.Name x p) (e :: es) [] pos) (tCal sp t) := by
  obtain ⟨f, fd, ps, F, kp, b, g⟩ := c.ex
  refine ⟨fun pins s σ H Q I h => ?_⟩
  refine (pe_call F hr hg g kp b .nil pass0 ha hdb he hpl).run pins s σ H Q I ?_
  show t σ H (fun vs H1 => sp (vs ++ []) H1 Q E0)
  rw [app_nil_sp]
  exact h
theorem pe_met {pl : Sem Bool} (c : MCal X.prog X.w X.K X.mg X.base k C m sp) (cl : Cls X.K C) (hr : Room k X.A) (ho : PE X o ta) (ha : PA X (e :: es) t)
    (hst : starEach (e :: es) X.env = (false, eval e X.env) :: starEach es X.env := by rfl) (hpl : (backTo pos (starEach es X.env)).any (·.1) = false := by rfl)
    (ht : eval (.Call (.Attribute o m apos) (e :: es) [] pos) X.env = (do
      let ov ← eval o X.env
      standAt apos.atName
      let (f, first) ← holding [ov] (getMethod ov m pl)
      callWith pos f first (backTo pos (starEach (e :: es) X.env)) (backToKw pos (keywordEach [] X.env))) := by rfl) :
    PE X (.Call (.Attribute o m apos) (e :: es) [] pos) (tMet C m sp ta t) := by
  obtain ⟨f, fd, ps, F, b, g⟩ := c.ex
  refine ⟨fun pins s σ H Q I h => ?_⟩
  refine (pe_meth (pl := pl) ho cl g F hr b .nil pass0 ha hst hpl ht).run pins s σ H Q I ?_
  have e0 : tMeth C m sp [] E0 ta t σ H Q = tMet C m sp ta t σ H Q := by
    unfold tMeth tMet
    simp only [List.append_nil]
  rw [e0]
  exact h
theorem pe_met0 {pl : Sem Bool} (c : MCal X.prog X.w X.K X.mg X.base k C m sp) (cl : Cls X.K C) (hr : Room k X.A) (ho : PE X o ta)
    (ht : eval (.Call (.Attribute o m apos) [] [] pos) X.env = (do
      let ov ← eval o X.env
      standAt apos.atName
      let (f, first) ← holding [ov] (getMethod ov m pl)
      callWith pos f first (backTo pos (starEach [] X.env)) (backToKw pos (keywordEach [] X.env))) := by rfl) :
    PE X (.Call (.Attribute o m apos) [] [] pos) (tMet C m sp ta tNil) := by
  obtain ⟨f, fd, ps, F, b, g⟩ := c.ex
  refine ⟨fun pins s σ H Q I h => ?_⟩
  refine (pe_meth0 (pl := pl) ho cl g F hr b .nil pass0 ht).run pins s σ H Q I ?_
  have e0 : tMeth C m sp [] E0 ta tNil σ H Q = tMet C m sp ta tNil σ H Q := by
    unfold tMeth tMet
    simp only [List.append_nil]
  rw [e0]
  exact h
end
/-! whole numbers -/
def B (n : Nat) (x : Int) : Prop := x.natAbs < 2 ^ n
theorem B.mul {a b : Nat} {x y : Int} (h : B a x) (k : B b y) : B (a + b) (x * y) := wide_lt h k
theorem B.mono {a b : Nat} {x : Int} (h : B a x) (l : a ≤ b) : B b x := Nat.lt_of_lt_of_le h (Nat.pow_le_pow_right (by decide) l)
theorem pow_succ_two (n : Nat) : 2 ^ (n + 1) = 2 ^ n + 2 ^ n := by rw [Nat.pow_succ]; omega
theorem B.add' {a : Nat} {x y : Int} (h : B a x) (k : B a y) : B (a + 1) (x + y) := by
  unfold B at *
  rw [pow_succ_two]
  omega
theorem B.add {a b : Nat} {x y : Int} (h : B a x) (k : B b y) : B (a + b + 1) (x + y) := (h.mono (Nat.le_add_right a b)).add' (k.mono (Nat.le_add_left b a))
theorem B.neg {a : Nat} {x : Int} (h : B a x) : B a (-x) := by
  unfold B at *
  rw [Int.natAbs_neg]
  exact h
theorem B.sub' {a : Nat} {x y : Int} (h : B a x) (k : B a y) : B (a + 1) (x - y) := h.add' k.neg
theorem B.log {a : Nat} {x : Int} (h : B a x) : x.natAbs.log2 ≤ a := by
  by_cases e : a = 0
  · subst e
    have : x.natAbs = 0 := by
      unfold B at h
      omega
    rw [this]
    decide
  · exact Nat.le_of_lt (PySem.Flt.log2_lt_of (by omega) h)
theorem B.cmul {a b : Nat} {x y : Int} (h : B a x) (k : B b y) (l : a + b < 1000000 := by decide) : CMulW x y := by
  have := h.log
  have := k.log
  unfold CMulW
  omega
/-- // by what isn't 0, below 2 ^ 9000 -/
def CDivX (_ j : Int) : Prop := j ≠ 0 ∧ j.natAbs.log2 < 9000
section
variable {X : Cx}
theorem op_fdivX : OpR X (binaryOp .FloorDiv) (rI CDivX fun i j => .int (i.fdiv j)) := opI fun i j _ _ _ _ _ hc q => floordiv_int hc.1 q (.inl (PyProof.noPylong_of_log2 hc.2))
end
/-! a dict of the module with whole numbers for keys -/
def KeysInt (w : World) (prog : Program) : List DictEntry → Prop
  | [] => True
  | e :: r => (∃ i t, e.key = .int i t ∧ e.hash = (intKind prog w).hash i) ∧ KeysInt w prog r
theorem KeysInt.all {w : World} {prog : Program} : ∀ {l : List DictEntry}, KeysInt w prog l → ∀ e ∈ l, ∃ i t, e.key = .int i t ∧ e.hash = (intKind prog w).hash i
  | _ :: _, ⟨h, _⟩, _, .head _ => h
  | _ :: _, ⟨_, r⟩, _, .tail _ m => r.all _ m
structure KDI (K : PySem.W.Frag) (w : World) (prog : Program) (a : Addr) (es : Array DictEntry) : Prop where
  ex : ∃ n, K.lookup a = some ⟨.type "dict", none, .dict es n, #[]⟩
  ks : KeysInt w prog es.toList
theorem KDI.map {K : PySem.W.Frag} {w : World} {prog : Program} {a : Addr} {es : Array DictEntry} {h : Heap} (D : KDI K w prog a es) (X : K.In h) : h.MapOf (intKind prog w) a (fun k => findBy Value.isInt es k) := by
  obtain ⟨n, hl⟩ := D.ex
  exact ⟨_, es, n, X _ _ hl, ⟨rfl, rfl, rfl⟩, rfl, fun e he => by
    obtain ⟨x, t, e1, e2⟩ := D.ks.all e (Array.mem_toList_iff.mpr he)
    exact ⟨x, by rw [e1]; exact intKind_is prog w x t, e2⟩, fun _ => rfl⟩
/-- d[i] of it -/
def rIxI (K : PySem.W.Frag) (w : World) (prog : Program) : R2 := fun x y H Q => ∃ p es i u v, x = .ref p ∧ y = .int i ∧ KDI K w prog p es ∧ findBy Value.isInt es i = some u ∧ RelV v u ∧ Q v H
section
variable {X : Cx}
theorem ix_kint : IxR X (rIxI X.K X.w X.prog) := by
  intro value slice pins s σ H x y v u Q I rx ry h hs
  obtain ⟨p, es, i, u0, r, rfl, rfl, D, e, ru, q⟩ := h
  obtain rfl : v = Value.ref p := rx
  obtain ⟨t, rfl⟩ := ry
  have hm := D.map I.kIn
  exact tail_any hm.typeIs slot_dict_getitem.lookup (wpAny_getItem_of (intKind_is X.prog X.w i t) hm e ⟨r, H, I.tok _, ru, q⟩) hs
end
/-! a call of what an index hands over: one of several defs -/
structure Held (P : Program) (w : World) (K : PySem.W.Frag) (mg : Str → Option Value) (base : Heap) (k : Nat) (f : Addr) (sp : Sp) : Prop where
  ex : ∃ (fd : FuncData) (ps : List Str), FnOk P w K mg base CX0 k f fd ps sp ∧ PySem.W.keepIn K (.ref f) = true ∧ Binds K fd ps []
def tCallS (S : Addr → Sp → Prop) (tf : TE) (t : TA) : TE := fun σ H Q => tf σ H fun x H1 => ∃ f sp, x = .ref f ∧ S f sp ∧ t σ H1 fun vs H2 => sp vs H2 Q E0
section
variable {X : Cx} {k : Nat} {o i e : Expr} {spos pos : Pos} {es : List Expr} {t : TA} {tf : TE}
theorem wpAny_Call_sub {M : Model} {A : Around} {E : Value → Shared → Prop} {s : Shared} {env : Env} {args : List Expr} {keywords : List Keyword} {Q : Value → Shared → Prop}
    (h : wpAny M A (eval (.Subscript o i spos) env) (fun f s₁ => wpAny M A (callWith pos f [] (backTo pos (starEach args env)) (backToKw pos (keywordEach keywords env))) Q E s₁) E s) :
    wpAny M A (eval (.Call (.Subscript o i spos) args keywords pos) env) Q E s := by
  have e0 : eval (.Call (.Subscript o i spos) args keywords pos) env = (do
    callWith pos (← eval (.Subscript o i spos) env) [] (backTo pos (starEach args env)) (backToKw pos (keywordEach keywords env))) := rfl
  rw [e0]
  exact wpAny_bind h
theorem pe_callS {S : Addr → Sp → Prop} (A : ∀ f sp, S f sp → Held X.prog X.w X.K X.mg X.base k f sp) (hr : Room k X.A) (hf : PE X (.Subscript o i spos) tf) (ha : PA X (e :: es) t)
    (he : starEach (e :: es) X.env = (false, eval e X.env) :: starEach es X.env := by rfl) (hpl : (backTo pos (starEach es X.env)).any (·.1) = false := by rfl) :
    PE X (.Call (.Subscript o i spos) (e :: es) [] pos) (tCallS S tf t) := by
  refine ⟨fun pins s σ H Q I h => ?_⟩
  refine wpAny_Call_sub (thn (hf.run pins s σ H _ I h) fun u s1 ⟨x, H1, I1, r1, f, sp, ex, hS, ht⟩ => ?_)
  subst ex
  obtain rfl : u = Value.ref f := r1
  obtain ⟨fd, ps, F, kp, hb⟩ := (A f sp hS).ex
  refine PySem.W.callWith_K (h₀ := X.base) I.ok.mod.kin kp (thn (ha.run pos pins s1 σ _ _ I1 ht) fun us s2 ⟨vs, H2, I2, r, q⟩ => ⟨I2.kIn, ?_⟩) he hpl
  exact run_fn F hr hb .nil pass0 I2 r (by rw [List.append_nil]; exact q)
end
/-! ### steps through a reading -/
section
variable {σ : L2.St} {H : Hp} {Q : VK} {K : PySem.W.Frag} {v x y : V} {ta tb te : TE} {t : TA}
theorem w_var {i : Nat} (h : σ[i]? = some (some v)) (q : Q v H) : tVar i σ H Q := ⟨v, h, q⟩
theorem w_c (q : Q v H) : tC v σ H Q := q
theorem w_op {r : R2} (h : ta σ H fun x H1 => tb σ H1 fun y H2 => r x y H2 Q) : tOp r ta tb σ H Q := h
theorem w_un {r : V → Hp → VK → Prop} (h : ta σ H fun x H1 => r x H1 Q) : tUn r ta σ H Q := h
theorem w_rI0 {g : Int → Int → V} {i j : Int} (q : Q (g i j) H) : rI0 g (.int i) (.int j) H Q := ⟨i, j, rfl, rfl, q⟩
theorem w_rI {C : Int → Int → Prop} {g : Int → Int → V} {i j : Int} (c : C i j) (q : Q (g i j) H) : rI C g (.int i) (.int j) H Q := ⟨i, j, rfl, rfl, c, q⟩
theorem w_rU {g : Int → V} {i : Int} (q : Q (g i) H) : rU g (.int i) H Q := ⟨i, rfl, q⟩
theorem w_ixT {p : Addr} {xs : List V} {i : Int} (h : H p = some (.tup xs)) (ha : atI xs i = some v) (q : Q v H) : rIxT K (.ref p) (.int i) H Q := ⟨p, xs, i, v, rfl, rfl, SqT.of h, ha, q⟩
theorem w_ixL {p : Addr} {xs : List V} {i : Int} (h : SqL K H p xs) (ha : atI xs i = some v) (q : Q v H) : rIxL K (.ref p) (.int i) H Q := ⟨p, xs, i, v, rfl, rfl, h, ha, q⟩
theorem w_eq {i j : Int} (q : Q (.bl (decide (i = j))) H) : rEq (.int i) (.int j) H Q := ⟨rfl, by
  have e : decide (V.int i = V.int j) = decide (i = j) := by simp
  rw [e]
  exact q⟩
theorem w_ne {i j : Int} (q : Q (.bl (!decide (i = j))) H) : rNe (.int i) (.int j) H Q := ⟨rfl, by
  have e : decide (V.int i = V.int j) = decide (i = j) := by simp
  rw [e]
  exact q⟩
/-- a field of the object at hand -/
def FldK (K : PySem.W.Frag) (f : Str) (x : V) (H : Hp) (Q : VK) : Prop := ∃ a C dx fs v, x = .ref a ∧ H a = some (.ins C dx fs) ∧ Cls K C ∧ NoAttr K C f ∧ fs.lookup f = some v ∧ Q v H
theorem w_fld {f : Str} (h : ta σ H fun x H1 => FldK K f x H1 Q) : tFld K ta f σ H Q := h
theorem w_fldk {f : Str} {a C dx : Addr} {fs : List (Str × V)} (ho : H a = some (.ins C dx fs)) (c : Cls K C) (n : NoAttr K C f) (l : fs.lookup f = some v) (q : Q v H) : FldK K f (.ref a) H Q := ⟨a, C, dx, fs, v, rfl, ho, c, n, l, q⟩
theorem w_cons {tr : TA} {QA : List V → Hp → Prop} (h : ta σ H fun x H1 => tr σ H1 fun xs H2 => QA (x :: xs) H2) : tCons ta tr σ H QA := h
theorem w_nil {QA : List V → Hp → Prop} (q : QA [] H) : tNil σ H QA := q
theorem w_cal {sp : Sp} (h : t σ H fun vs H1 => sp vs H1 Q E0) : tCal sp t σ H Q := h
/-- a method of the object at hand -/
def MetK (C : Addr) (m : Str) (sp : Sp) (σ : L2.St) (t : TA) (x : V) (H : Hp) (Q : VK) : Prop := ∃ a dx fs, x = .ref a ∧ H a = some (.ins C dx fs) ∧ fs.lookup m = none ∧ t σ H fun vs H2 => sp (x :: vs) H2 Q E0
theorem w_met {C : Addr} {m : Str} {sp : Sp} (h : ta σ H fun x H1 => MetK C m sp σ t x H1 Q) : tMet C m sp ta t σ H Q := h
theorem w_metk {C a dx : Addr} {m : Str} {sp : Sp} {fs : List (Str × V)} (ho : H a = some (.ins C dx fs)) (l : fs.lookup m = none) (h : t σ H fun vs H2 => sp (.ref a :: vs) H2 Q E0) : MetK C m sp σ t (.ref a) H Q := ⟨a, dx, fs, rfl, ho, l, h⟩
def NewT (xs : List V) (H : Hp) (Q : VK) : Prop := xs.length ≤ sizeLine ∧ ∀ p, H p = none → Q (.ref p) (upd H p (.tup xs))
def NewL (xs : List V) (H : Hp) (Q : VK) : Prop := xs.length ≤ sizeLine ∧ ∀ p, H p = none → Q (.ref p) (upd H p (.lst xs))
theorem same_new {p : Addr} {o : HO} (h : H p = none) : Same H (upd H p o) := fun a u e => by
  rw [upd_ne (ne_of_none e h)]
  exact e
theorem w_tup (h : t σ H fun xs H1 => NewT xs H1 Q) : tTup t σ H Q := h
theorem w_lst (h : t σ H fun xs H1 => NewL xs H1 Q) : tLst t σ H Q := h
theorem w_newT {xs : List V} (hl : xs.length ≤ sizeLine) (q : ∀ p H', Same H H' → H p = none → H' p = some (.tup xs) → Q (.ref p) H') : NewT xs H Q := ⟨hl, fun p hp => q p _ (same_new hp) hp upd_same⟩
theorem w_newL {xs : List V} (hl : xs.length ≤ sizeLine) (q : ∀ p H', Same H H' → H p = none → H' p = some (.lst xs) → Q (.ref p) H') : NewL xs H Q := ⟨hl, fun p hp => q p _ (same_new hp) hp upd_same⟩
theorem w_cb {r : List V → Hp → VK → Prop} (h : t σ H fun vs H1 => r vs H1 Q) : tCB r t σ H Q := h
variable {D : Ends} {t1 t2 : TS} {c : TT} {QB : Bool → Hp → Prop}
theorem w_seq (h : t1 { D with nx := t2 D } σ H) : tSeq t1 t2 D σ H := h
theorem w_asg {i : Nat} (h : te σ H fun x H1 => D.nx (σ.set i (some x)) H1) : tAsg te (gName i) D σ H := h
theorem w_ret (h : te σ H D.rt) : tRet te D σ H := h
theorem w_if (h : c σ H fun b H1 => if b = true then t1 D σ H1 else t2 D σ H1) : tIfS c t1 t2 D σ H := h
theorem w_next (h : D.nx σ H) : tNext D σ H := h
def TstK (QB : Bool → Hp → Prop) (x : V) (H : Hp) : Prop := ∃ k, x = .bl k ∧ QB k H
theorem w_test (h : te σ H fun x H1 => TstK QB x H1) : tTest te σ H QB := h
theorem w_tB (h : te σ H fun x H1 => TstK QB x H1) : tB te σ H QB := h
theorem w_tstk {k : Bool} (q : QB k H) : TstK QB (.bl k) H := ⟨k, rfl, q⟩
theorem w_and {t u : TT} (h : t σ H fun c H1 => if c = true then u σ H1 QB else QB false H1) : tAnd t u σ H QB := h
theorem w_or {t u : TT} (h : t σ H fun c H1 => if c = true then QB true H1 else u σ H1 QB) : tOr t u σ H QB := h
theorem w_not {t : TT} (h : t σ H fun c H1 => QB (!c) H1) : tNot t σ H QB := h
theorem w_ifx {t : TT} (h : t σ H fun c H1 => if c = true then ta σ H1 Q else tb σ H1 Q) : tIf t ta tb σ H Q := h
theorem ite_t {b : Bool} {A1 A2 : Prop} (e : b = true) (h : A1) : if b = true then A1 else A2 := by
  rw [if_pos e]
  exact h
theorem ite_f {b : Bool} {A1 A2 : Prop} (e : b = false) (h : A2) : if b = true then A1 else A2 := by
  rw [e, if_neg Bool.false_ne_true]
  exact h
theorem ite_d {p : Prop} [Decidable p] {A1 A2 : Prop} (h1 : p → A1) (h2 : ¬ p → A2) : if decide p = true then A1 else A2 := by
  by_cases h : p
  · exact ite_t (decide_eq_true h) (h1 h)
  · exact ite_f (decide_eq_false h) (h2 h)
theorem ite_n {p : Prop} [Decidable p] {A1 A2 : Prop} (h1 : ¬ p → A1) (h2 : p → A2) : if (!decide p) = true then A1 else A2 := by
  by_cases h : p
  · exact ite_f (by rw [decide_eq_true h]; rfl) (h2 h)
  · exact ite_t (by rw [decide_eq_false h]; rfl) (h1 h)
theorem ite_b {b : Bool} {A1 A2 : Prop} (h1 : b = true → A1) (h2 : b = false → A2) : if b = true then A1 else A2 := by
  cases b
  · exact ite_f rfl (h2 rfl)
  · exact ite_t rfl (h1 rfl)
end
/-! ### places in the heap -/
open Kqy3
def triV (p : Pt) : List V := [.int p.1, .int p.2.1, .int p.2.2]
def duoV (p : Int × Int) : List V := [.int p.1, .int p.2]
structure Tri (H : Hp) (v : V) (p : Pt) : Prop where
  ex : ∃ a, v = .ref a ∧ H a = some (.tup (triV p))
structure Duo (H : Hp) (v : V) (p : Int × Int) : Prop where
  ex : ∃ a, v = .ref a ∧ H a = some (.tup (duoV p))
theorem Tri.same {H H' : Hp} {v : V} {p : Pt} (t : Tri H v p) (e : Same H H') : Tri H' v p := by
  obtain ⟨a, rfl, h⟩ := t.ex
  exact ⟨a, rfl, e _ _ h⟩
theorem Duo.same {H H' : Hp} {v : V} {p : Int × Int} (t : Duo H v p) (e : Same H H') : Duo H' v p := by
  obtain ⟨a, rfl, h⟩ := t.ex
  exact ⟨a, rfl, e _ _ h⟩
/-- all three below 2 ^ n -/
structure PB (n : Nat) (p : Pt) : Prop where
  a : B n p.1
  b : B n p.2.1
  c : B n p.2.2
theorem PB.mono {m n : Nat} {p : Pt} (h : PB m p) (l : m ≤ n) : PB n p := ⟨h.a.mono l, h.b.mono l, h.c.mono l⟩
theorem B_dot {m n : Nat} {p q : Pt} (h : PB m p) (k : PB n q) : B (m + n + 2) (dot p q) := ((h.a.mul k.a).add' (h.b.mul k.b)).add' ((h.c.mul k.c).mono (Nat.le_succ _))
theorem PB_cross {m n : Nat} {p q : Pt} (h : PB m p) (k : PB n q) : PB (m + n + 1) (cross p q) := ⟨(h.b.mul k.c).sub' (h.c.mul k.b), (h.c.mul k.a).sub' (h.a.mul k.c), (h.a.mul k.b).sub' (h.b.mul k.a)⟩
end TW
namespace TW
open PySem PySem.Spec PyProof.Rows L2 Kqy3
theorem B.sub {a b : Nat} {x y : Int} (h : B a x) (k : B b y) : B (a + b + 1) (x - y) := (h.mono (Nat.le_add_right a b)).sub' (k.mono (Nat.le_add_left b a))
section
variable {σ : L2.St} {H : Hp} {Q : VK} {K : PySem.W.Frag} {v x y : V} {ta tb te : TE}
def AndK (tb : TE) (σ : L2.St) (Q : VK) (x : V) (H : Hp) : Prop := ∃ c, x = .bl c ∧ if c = true then tb σ H Q else Q (.bl false) H
theorem w_andV (h : ta σ H fun x H1 => AndK tb σ Q x H1) : tAndV ta tb σ H Q := h
theorem w_andk {c : Bool} (h1 : c = true → tb σ H Q) (h2 : c = false → Q (.bl false) H) : AndK tb σ Q (.bl c) H := ⟨c, rfl, ite_b h1 h2⟩
def NotK (Q : VK) (x : V) (H : Hp) : Prop := ∃ c, x = .bl c ∧ Q (.bl (!c)) H
theorem w_notV (h : ta σ H fun x H1 => NotK Q x H1) : tNotV ta σ H Q := h
theorem w_notk {c : Bool} (q : Q (.bl (!c)) H) : NotK Q (.bl c) H := ⟨c, rfl, q⟩
theorem w_isN (q : Q (.bl (decide (x = .non))) H) : (fun (x y : V) (H : Hp) (Q : VK) => y = .non ∧ Q (.bl (decide (x = .non))) H) x .non H Q := ⟨rfl, q⟩
theorem w_notN (q : Q (.bl (!decide (x = .non))) H) : (fun (x y : V) (H : Hp) (Q : VK) => y = .non ∧ Q (.bl (!decide (x = .non))) H) x .non H Q := ⟨rfl, q⟩
end
/-! the picture's fields, in the order in which they are set -/
def pF (a b c d e : V) : List (Str × V) := [("horizon", a), ("up", b), ("post_foot", c), ("post_head", d), ("post_height", e)]
theorem lk_here {k : Str} {v : V} {r : List (Str × V)} : List.lookup k ((k, v) :: r) = some v := by
  have e : (k == k) = true := beq_self_eq_true k
  simp only [List.lookup, e]
theorem lk_past {k g : Str} {v : V} {r : List (Str × V)} (h : (k == g) = false) : List.lookup k ((g, v) :: r) = List.lookup k r := by
  simp only [List.lookup, h]
theorem pF_horizon {a b c d e : V} : (pF a b c d e).lookup ("horizon" : Str) = some a := lk_here
theorem pF_up {a b c d e : V} : (pF a b c d e).lookup ("up" : Str) = some b := (lk_past (by decide +kernel)).trans lk_here
theorem pF_foot {a b c d e : V} : (pF a b c d e).lookup ("post_foot" : Str) = some c := (lk_past (by decide +kernel)).trans ((lk_past (by decide +kernel)).trans lk_here)
theorem pF_head {a b c d e : V} : (pF a b c d e).lookup ("post_head" : Str) = some d := (lk_past (by decide +kernel)).trans ((lk_past (by decide +kernel)).trans ((lk_past (by decide +kernel)).trans lk_here))
theorem pF_height {a b c d e : V} : (pF a b c d e).lookup ("post_height" : Str) = some e := (lk_past (by decide +kernel)).trans ((lk_past (by decide +kernel)).trans ((lk_past (by decide +kernel)).trans ((lk_past (by decide +kernel)).trans lk_here)))
/-- a constant of the module -/
theorem pe_const {X : Cx} {x : Str} {i : Int} {pos : Pos} (h : ∃ t, X.mg x = some (.int i t)) (hg : Gl X x) (hd : (x == ("__debug__" : Str)) = false := by decide) : PE X (.Name x pos) (tC (.int i)) := by
  obtain ⟨t, ht⟩ := h
  exact pe_glob hg ht ⟨t, rfl⟩ hd
structure Atts (K : PySem.W.Frag) (C : Addr) : Prop where
  cl : Cls K C
  a1 : NoAttr K C "horizon"
  a2 : NoAttr K C "up"
  a3 : NoAttr K C "post_foot"
  a4 : NoAttr K C "post_head"
  a5 : NoAttr K C "post_height"
structure Txt (K : PySem.W.Frag) (mg : Str → Option Value) (C : Addr) : Prop where
  at_ : Atts K C
  gC : mg "Picture" = some (.ref C)
  b_abs : mg "abs" = none
  b_len : mg "len" = none
  b_list : mg "list" = none
  b_tuple : mg "tuple" = none
  b_range : mg "range" = none
  k_NOT_STARTED : ∃ t, mg "NOT_STARTED" = some (.int (-11) t)
  k_OUT_OF_RANGE : ∃ t, mg "OUT_OF_RANGE" = some (.int (-22) t)
  k_NOT_READY : ∃ t, mg "NOT_READY" = some (.int (-16) t)
  k_NOT_STANDING : ∃ t, mg "NOT_STANDING" = some (.int (-33) t)
  k_BEYOND_ALL : ∃ t, mg "BEYOND_ALL" = some (.int (-6) t)
  k_START : ∃ t, mg "START" = some (.int 0 t)
  k_SAME_POINT : ∃ t, mg "SAME_POINT" = some (.int (-17) t)
theorem Txt.cl {K : PySem.W.Frag} {mg : Str → Option Value} {C : Addr} (T : Txt K mg C) : Cls K C := T.at_.cl
def top (i : Nat) : Stmt := PySem.Challenge.pw_tallpost_s01_answers.main.body.getD i (.Pass ⟨0, 0, 0, 0⟩)
local macro_rules | `(tactic| walk_at "bb") => `(tactic| first | assumption | (apply B.mul <;> walk_at "bb") | (apply B.add <;> walk_at "bb") | (apply B.sub <;> walk_at "bb") | (apply B.neg; walk_at "bb"))
local macro_rules | `(tactic| walk_at "step") => `(tactic| first
  | with_reducible refine w_c ?_
  | ((with_reducible show tVar _ _ _ _); refine w_var (by exact rfl) ?_)
  | with_reducible refine w_op ?_
  | with_reducible refine w_un ?_
  | with_reducible refine w_rI0 ?_
  | with_reducible refine w_rU ?_
  | ((with_reducible show rI CMulW _ _ _ _ _); refine w_rI (by apply B.cmul <;> first | walk_at "bb" | decide) ?_)
  | ((with_reducible show rIxT _ _ _ _ _); refine w_ixT (by assumption) (by exact rfl) ?_)
  | ((with_reducible show rIxL _ _ _ _ _); refine w_ixL (by assumption) (by exact rfl) ?_)
  | with_reducible refine w_eq ?_
  | with_reducible refine w_ne ?_
  | with_reducible refine w_fld ?_
  | ((with_reducible show FldK _ _ _ _ _); refine w_fldk (by assumption) (by assumption) (by assumption) (by first | with_reducible exact pF_horizon | with_reducible exact pF_up | with_reducible exact pF_foot | with_reducible exact pF_head | with_reducible exact pF_height) ?_)
  | with_reducible refine w_cons ?_
  | with_reducible refine w_nil ?_
  | with_reducible refine w_cal ?_
  | with_reducible refine w_met ?_
  | ((with_reducible show MetK _ _ _ _ _ _ _ _); refine w_metk (by assumption) (by walk_at "nometh") ?_)
  | with_reducible refine w_tup ?_
  | with_reducible refine w_lst ?_
  | with_reducible refine w_cb ?_
  | with_reducible refine w_seq ?_
  | with_reducible refine w_asg ?_
  | with_reducible refine w_ret ?_
  | with_reducible refine w_if ?_
  | with_reducible refine w_next ?_
  | with_reducible refine w_test ?_
  | with_reducible refine w_tB ?_
  | with_reducible refine w_tstk ?_
  | with_reducible refine w_and ?_
  | with_reducible refine w_or ?_
  | with_reducible refine w_not ?_
  | with_reducible refine w_andV ?_
  | with_reducible refine w_notV ?_
  | ((with_reducible show V.non = V.non ∧ _); refine ⟨rfl, ?_⟩)
  | with_reducible refine w_notk ?_
  | with_reducible refine w_ifx ?_)
local macro_rules | `(tactic| walk_at "go") => `(tactic| repeat walk_at "step")
local macro_rules | `(tactic| walk_at "nometh") => `(tactic| (refine (lk_past (by decide +kernel)).trans ((lk_past (by decide +kernel)).trans ((lk_past (by decide +kernel)).trans ((lk_past (by decide +kernel)).trans ((lk_past (by decide +kernel)).trans rfl))))))
section
variable {P : Program} {w : World} {K : PySem.W.Frag} {mg : Str → Option Value} {base : Heap} {C : Addr}
/-! greatest_shared -/
abbrev s_gcd : Stmt := top 1
theorem sc_gcd : FnScope ["first", "second", "shared", "rest", "left"] ["first", "second"] (defScope s_gcd) := ⟨rfl, rfl, rfl, by decide +kernel, rfl, by decide +kernel, by decide +kernel⟩
def sp_gcd : Sp := fun vs H Q _ => ∃ a b, vs = [.int a, .int b] ∧ Q (.int (Nat.gcd a.natAbs b.natAbs : Nat)) H
theorem abs_nat (i : Int) : (if i < 0 then -i else i) = (i.natAbs : Int) := by
  split <;> omega
theorem ok_gcd (T : Txt K mg C) (d : DF K mg "greatest_shared" s_gcd ["first", "second"]) : Cal P w K mg base 1 "greatest_shared" sp_gcd := by
  refine d.cal sc_gcd (fun vs H Q E h => ?_) (fun f cdv A outer s H vs Q E hr h => ⟨_, (pss_cons (ps_set (i := 2) sc_gcd.nd rfl (Or.inl rfl) (pe_callB call_abs (by rfl) T.b_abs (by decide +kernel) (pa_cons (pv 0) pa_nil)))
      (pss_cons (ps_set (i := 3) sc_gcd.nd rfl (Or.inl rfl) (pe_callB call_abs (by rfl) T.b_abs (by decide +kernel) (pa_cons (pv 1) pa_nil)))
      (pss_cons (ps_while PassesOwn.never (pt_cmpR op_ne (pv 3) pe_int (nomark _)) (pss_cons (ps_set (i := 4) sc_gcd.nd rfl (Or.inl rfl) (pe_op op_modN (pv 2) (pv 3)))
      (pss_cons (ps_set (i := 2) sc_gcd.nd rfl (Or.inl rfl) (pv 3))
      (pss_one (ps_set (i := 3) sc_gcd.nd rfl (Or.inl rfl) (pv 4))))))
      (pss_one (ps_ret (pv 2)))))), ?_⟩)
  · obtain ⟨_, _, rfl, _⟩ := h
    rfl
  · obtain ⟨a, b, rfl, q⟩ := h
    walk_at "go"
    refine ⟨a, rfl, ?_⟩
    rw [abs_nat]
    walk_at "go"
    refine ⟨b, rfl, ?_⟩
    rw [abs_nat]
    walk_at "go"
    refine ⟨fun m σ H' => H' = H ∧ ∃ (x : Nat) (l : Option V), σ = [some (.int a), some (.int b), some (.int x), some (.int m), l] ∧ Nat.gcd x m = Nat.gcd a.natAbs b.natAbs, ⟨b.natAbs, rfl, a.natAbs, none, rfl, rfl⟩, ?_⟩
    rintro m σ H' ⟨rfl, x, l, rfl, g⟩
    walk_at "go"
    refine ite_n (fun hm => ?_) (fun hm => ?_)
    · refine ⟨fun σ' H'' => H'' = H' ∧ ∃ (l : Option V), σ' = [some (.int a), some (.int b), some (.int m), some (.int (x % m : Nat)), l], ?_, ?_⟩
      · rintro σ' H'' ⟨rfl, l', rfl⟩
        have hp : 0 < m := by omega
        refine ⟨x % m, Nat.mod_lt _ hp, rfl, m, l', rfl, ?_⟩
        rw [← g, Nat.gcd_comm m, ← Nat.gcd_rec, Nat.gcd_comm]
      · walk_at "go"
        refine w_rI hm ?_
        walk_at "go"
        have e : (x : Int).fmod (m : Int) = ((x % m : Nat) : Int) := by
          rw [Int.fmod_eq_emod_of_nonneg _ (by omega)]
          rfl
        rw [e]
        exact ⟨rfl, _, rfl⟩
    · walk_at "go"
      have : m = 0 := by omega
      subst this
      rw [Nat.gcd_zero_right] at g
      rw [g]
      exact q
end
end TW
namespace TW
open PySem PySem.Spec PyProof.Rows L2 Kqy3
local macro_rules | `(tactic| walk_at "bb") => `(tactic| first | assumption | (apply B.mul <;> walk_at "bb") | (apply B.add <;> walk_at "bb") | (apply B.sub <;> walk_at "bb") | (apply B.neg; walk_at "bb"))
local macro_rules | `(tactic| walk_at "step") => `(tactic| first
  | with_reducible refine w_c ?_
  | ((with_reducible show tVar _ _ _ _); refine w_var (by exact rfl) ?_)
  | with_reducible refine w_op ?_
  | with_reducible refine w_un ?_
  | with_reducible refine w_rI0 ?_
  | with_reducible refine w_rU ?_
  | ((with_reducible show rI CMulW _ _ _ _ _); refine w_rI (by apply B.cmul <;> first | walk_at "bb" | decide) ?_)
  | ((with_reducible show rIxT _ _ _ _ _); refine w_ixT (by assumption) (by exact rfl) ?_)
  | ((with_reducible show rIxL _ _ _ _ _); refine w_ixL (by assumption) (by exact rfl) ?_)
  | with_reducible refine w_eq ?_
  | with_reducible refine w_ne ?_
  | with_reducible refine w_fld ?_
  | ((with_reducible show FldK _ _ _ _ _); refine w_fldk (by assumption) (by assumption) (by assumption) (by first | with_reducible exact pF_horizon | with_reducible exact pF_up | with_reducible exact pF_foot | with_reducible exact pF_head | with_reducible exact pF_height) ?_)
  | with_reducible refine w_cons ?_
  | with_reducible refine w_nil ?_
  | with_reducible refine w_cal ?_
  | with_reducible refine w_met ?_
  | ((with_reducible show MetK _ _ _ _ _ _ _ _); refine w_metk (by assumption) (by walk_at "nometh") ?_)
  | with_reducible refine w_tup ?_
  | with_reducible refine w_lst ?_
  | with_reducible refine w_cb ?_
  | with_reducible refine w_seq ?_
  | with_reducible refine w_asg ?_
  | with_reducible refine w_ret ?_
  | with_reducible refine w_if ?_
  | with_reducible refine w_next ?_
  | with_reducible refine w_test ?_
  | with_reducible refine w_tB ?_
  | with_reducible refine w_tstk ?_
  | with_reducible refine w_and ?_
  | with_reducible refine w_or ?_
  | with_reducible refine w_not ?_
  | with_reducible refine w_andV ?_
  | with_reducible refine w_notV ?_
  | ((with_reducible show V.non = V.non ∧ _); refine ⟨rfl, ?_⟩)
  | with_reducible refine w_notk ?_
  | with_reducible refine w_ifx ?_)
local macro_rules | `(tactic| walk_at "go") => `(tactic| repeat walk_at "step")
local macro_rules | `(tactic| walk_at "nometh") => `(tactic| (refine (lk_past (by decide +kernel)).trans ((lk_past (by decide +kernel)).trans ((lk_past (by decide +kernel)).trans ((lk_past (by decide +kernel)).trans ((lk_past (by decide +kernel)).trans rfl))))))
section
variable {P : Program} {w : World} {K : PySem.W.Frag} {mg : Str → Option Value} {base : Heap} {C : Addr}
/-! lowest -/
abbrev s_lowest : Stmt := top 2
theorem sc_lowest : FnScope ["above", "below", "shared"] ["above", "below"] (defScope s_lowest) := ⟨rfl, rfl, rfl, by decide +kernel, rfl, by decide +kernel, by decide +kernel⟩
def sp_lowest : Sp := fun vs H Q _ => ∃ a b, vs = [.int a, .int b] ∧ b ≠ 0 ∧ B 8000 b ∧ ∀ v H', Same H H' → Duo H' v (TP.low a b) → Q v H'
theorem gcd_cdiv {a b : Int} (hb : b ≠ 0) (h : B 8000 b) (x : Int) : CDivX x ((Nat.gcd a.natAbs b.natAbs : Nat) : Int) ∧ CDivX x (-((Nat.gcd a.natAbs b.natAbs : Nat) : Int)) := by
  have g := TP.gcd_pos (a := a) hb
  have l : Nat.gcd a.natAbs b.natAbs ≤ b.natAbs := Nat.gcd_le_right _ (by omega)
  have k : B 8000 ((Nat.gcd a.natAbs b.natAbs : Nat) : Int) := Nat.lt_of_le_of_lt (by rw [Int.natAbs_natCast]; exact l) h
  exact ⟨⟨by omega, Nat.lt_of_le_of_lt k.log (by decide)⟩, ⟨by omega, Nat.lt_of_le_of_lt k.neg.log (by decide)⟩⟩
theorem ok_lowest (d : DF K mg "lowest" s_lowest ["above", "below"]) (c_greatest_shared : Cal P w K mg base 1 "greatest_shared" sp_gcd) : Cal P w K mg base 2 "lowest" sp_lowest := by
  refine d.cal sc_lowest (fun vs H Q E h => ?_) (fun f cdv A outer s H vs Q E hr h => ⟨_, (pss_cons (ps_set (i := 2) sc_lowest.nd rfl (Or.inl rfl) (pe_cal c_greatest_shared (hr.mono (by decide)) rfl (pa_cons (pv 0) (pa_cons (pv 1) pa_nil))))
      (pss_cons (ps_if (pt_cmpR op_lt (pv 1) pe_int (nomark _)) (pss_one (ps_set (i := 2) sc_lowest.nd rfl (Or.inl rfl) (pe_un un_neg (pv 2)))) pss_nil)
      (pss_one (ps_ret (pe_tup (pa_cons (pe_op op_fdivX (pv 0) (pv 2)) (pa_cons (pe_op op_fdivX (pv 1) (pv 2)) pa_nil))))))), ?_⟩)
  · obtain ⟨_, _, rfl, _⟩ := h
    rfl
  · obtain ⟨a, b, rfl, hb, bb, q⟩ := h
    walk_at "go"
    refine ⟨a, b, rfl, ?_⟩
    walk_at "go"
    refine ite_d (fun hn => ?_) (fun hn => ?_)
    · walk_at "go"
      refine w_rI (gcd_cdiv hb bb _).2 ?_
      walk_at "go"
      refine w_rI (gcd_cdiv hb bb _).2 ?_
      walk_at "go"
      refine w_newT (by show 2 ≤ sizeLine; decide) fun p H' e _ hp => q _ _ e ⟨p, rfl, ?_⟩
      rw [hp]
      unfold TP.low duoV
      simp only [if_pos hn]
    · walk_at "go"
      refine w_rI (gcd_cdiv hb bb _).1 ?_
      walk_at "go"
      refine w_rI (gcd_cdiv hb bb _).1 ?_
      walk_at "go"
      refine w_newT (by show 2 ≤ sizeLine; decide) fun p H' e _ hp => q _ _ e ⟨p, rfl, ?_⟩
      rw [hp]
      unfold TP.low duoV
      simp only [if_neg hn]
/-! makes, cross, is_same -/
abbrev s_makes : Stmt := top 4
theorem sc_makes : FnScope ["line", "point"] ["line", "point"] (defScope s_makes) := ⟨rfl, rfl, rfl, by decide +kernel, rfl, by decide +kernel, by decide +kernel⟩
def sp_makes : Sp := fun vs H Q _ => ∃ u v l p, vs = [u, v] ∧ Tri H u l ∧ Tri H v p ∧ PB 4000 l ∧ PB 4000 p ∧ Q (.int (dot l p)) H
theorem ok_makes (d : DF K mg "makes" s_makes ["line", "point"]) : Cal P w K mg base 1 "makes" sp_makes := by
  refine d.cal sc_makes (fun vs H Q E h => ?_) (fun f cdv A outer s H vs Q E hr h => ⟨_, (pss_one (ps_ret (pe_op op_add (pe_op op_add (pe_op op_mulW (pe_ix ix_tup (pv 0) pe_int (fun _ _ => rfl)) (pe_ix ix_tup (pv 1) pe_int (fun _ _ => rfl))) (pe_op op_mulW (pe_ix ix_tup (pv 0) pe_int (fun _ _ => rfl)) (pe_ix ix_tup (pv 1) pe_int (fun _ _ => rfl)))) (pe_op op_mulW (pe_ix ix_tup (pv 0) pe_int (fun _ _ => rfl)) (pe_ix ix_tup (pv 1) pe_int (fun _ _ => rfl)))))), ?_⟩)
  · obtain ⟨_, _, _, _, rfl, _⟩ := h
    rfl
  · obtain ⟨u, v, l, p, rfl, tl, tp, ⟨b1, b2, b3⟩, ⟨b4, b5, b6⟩, q⟩ := h
    obtain ⟨a, rfl, ha⟩ := tl.ex
    obtain ⟨b, rfl, hb⟩ := tp.ex
    walk_at "go"
    exact q
abbrev s_cross : Stmt := top 5
theorem sc_cross : FnScope ["first", "second"] ["first", "second"] (defScope s_cross) := ⟨rfl, rfl, rfl, by decide +kernel, rfl, by decide +kernel, by decide +kernel⟩
def sp_cross : Sp := fun vs H Q _ => ∃ u v l p, vs = [u, v] ∧ Tri H u l ∧ Tri H v p ∧ PB 4000 l ∧ PB 4000 p ∧ ∀ v H', Same H H' → Tri H' v (cross l p) → Q v H'
theorem ok_cross (d : DF K mg "cross" s_cross ["first", "second"]) : Cal P w K mg base 1 "cross" sp_cross := by
  refine d.cal sc_cross (fun vs H Q E h => ?_) (fun f cdv A outer s H vs Q E hr h => ⟨_, (pss_one (ps_ret (pe_tup (pa_cons (pe_op op_sub (pe_op op_mulW (pe_ix ix_tup (pv 0) pe_int (fun _ _ => rfl)) (pe_ix ix_tup (pv 1) pe_int (fun _ _ => rfl))) (pe_op op_mulW (pe_ix ix_tup (pv 0) pe_int (fun _ _ => rfl)) (pe_ix ix_tup (pv 1) pe_int (fun _ _ => rfl)))) (pa_cons (pe_op op_sub (pe_op op_mulW (pe_ix ix_tup (pv 0) pe_int (fun _ _ => rfl)) (pe_ix ix_tup (pv 1) pe_int (fun _ _ => rfl))) (pe_op op_mulW (pe_ix ix_tup (pv 0) pe_int (fun _ _ => rfl)) (pe_ix ix_tup (pv 1) pe_int (fun _ _ => rfl)))) (pa_cons (pe_op op_sub (pe_op op_mulW (pe_ix ix_tup (pv 0) pe_int (fun _ _ => rfl)) (pe_ix ix_tup (pv 1) pe_int (fun _ _ => rfl))) (pe_op op_mulW (pe_ix ix_tup (pv 0) pe_int (fun _ _ => rfl)) (pe_ix ix_tup (pv 1) pe_int (fun _ _ => rfl)))) pa_nil)))))), ?_⟩)
  · obtain ⟨_, _, _, _, rfl, _⟩ := h
    rfl
  · obtain ⟨u, v, l, p, rfl, tl, tp, ⟨b1, b2, b3⟩, ⟨b4, b5, b6⟩, q⟩ := h
    obtain ⟨a, rfl, ha⟩ := tl.ex
    obtain ⟨b, rfl, hb⟩ := tp.ex
    walk_at "go"
    exact w_newT (by show 3 ≤ sizeLine; decide) fun p H' e _ hp => q _ _ e ⟨p, rfl, hp⟩
/-- == of two triples -/
theorem w_eqD {H : Hp} {Q : VK} {u v : V} {p q : Pt} (t : Tri H u p) (t' : Tri H v q) (k : Q (.bl (decide (p = q))) H) : rEqD K u v H Q := by
  obtain ⟨a, rfl, ha⟩ := t.ex
  obtain ⟨b, rfl, hb⟩ := t'.ex
  refine ⟨.tuple [.int p.1, .int p.2.1, .int p.2.2], .tuple [.int q.1, .int q.2.1, .int q.2.2], .tup (SqT.of ha) (.cons (.int _) (.cons (.int _) (.cons (.int _) .nil))), .tup (SqT.of hb) (.cons (.int _) (.cons (.int _) (.cons (.int _) .nil))), ?_, ?_, ?_⟩
  · rfl
  · rfl
  · have e : PyData.eqv (.tuple [.int p.1, .int p.2.1, .int p.2.2]) (.tuple [.int q.1, .int q.2.1, .int q.2.2]) = decide (p = q) := by
      obtain ⟨a, b, c⟩ := p
      obtain ⟨d, e, f⟩ := q
      simp only [PyData.eqv, PyData.eqvAll, Bool.and_true]
      rw [Bool.eq_iff_iff]
      simp
    rw [e]
    exact k
abbrev s_is_same : Stmt := top 6
theorem sc_is_same : FnScope ["first", "second"] ["first", "second"] (defScope s_is_same) := ⟨rfl, rfl, rfl, by decide +kernel, rfl, by decide +kernel, by decide +kernel⟩
def sp_is_same : Sp := fun vs H Q _ => ∃ u v l p, vs = [u, v] ∧ Tri H u l ∧ Tri H v p ∧ PB 4000 l ∧ PB 4000 p ∧ ∀ H', Same H H' → Q (.bl (alike l p)) H'
theorem alike_dec {p q : Pt} : alike p q = decide (cross p q = (0, 0, 0)) := by
  rw [Bool.eq_iff_iff, TP.alike_iff]
  simp
theorem ok_is_same (d : DF K mg "is_same" s_is_same ["first", "second"]) (c_cross : Cal P w K mg base 1 "cross" sp_cross) : Cal P w K mg base 2 "is_same" sp_is_same := by
  refine d.cal sc_is_same (fun vs H Q E h => ?_) (fun f cdv A outer s H vs Q E hr h => ⟨_, (pss_one (ps_ret (pe_cmpR (op_eqD hr.units) (pe_cal c_cross (hr.mono (by decide)) rfl (pa_cons (pv 0) (pa_cons (pv 1) pa_nil))) (pe_tup (pa_cons pe_int (pa_cons pe_int (pa_cons pe_int pa_nil)))) (nomark _)))), ?_⟩)
  · obtain ⟨_, _, _, _, rfl, _⟩ := h
    rfl
  · obtain ⟨u, v, l, p, rfl, tl, tp, bl, bp, q⟩ := h
    walk_at "go"
    refine ⟨u, v, l, p, rfl, tl, tp, bl, bp, fun x H1 e1 tx => ?_⟩
    walk_at "go"
    refine w_newT (by show 3 ≤ sizeLine; decide) fun y H2 e2 _ hy => ?_
    refine w_eqD (tx.same e2) (q := (0, 0, 0)) ⟨y, rfl, hy⟩ ?_
    rw [← alike_dec]
    exact q _ (e1.trans e2)
end
end TW
namespace TW
open PySem PySem.Spec PyProof.Rows L2 Kqy3
/-! the picture in the heap -/
def OptT (H : Hp) (v : V) : Option Pt → Prop
  | none => v = .non
  | some p => Tri H v p
def PostT (H : Hp) (vf vt vn : V) : Option (Pt × Pt × Int) → Prop
  | none => vf = .non ∧ vt = .non ∧ vn = .non
  | some x => Tri H vf x.1 ∧ Tri H vt x.2.1 ∧ vn = .int x.2.2
structure PicAt (C : Addr) (H : Hp) (x : V) (st : State) : Prop where
  ex : ∃ a dx vh vu vf vt vn, x = .ref a ∧ H a = some (.ins C dx (pF vh vu vf vt vn)) ∧ OptT H vh st.l ∧ OptT H vu st.up ∧ PostT H vf vt vn st.post
structure ScAt (C : Addr) (H : Hp) (x : V) (s : Scene) : Prop where
  ex : ∃ a dx vh vu vf vt, x = .ref a ∧ H a = some (.ins C dx (pF vh vu vf vt (.int s.high))) ∧ Tri H vh s.l ∧ Tri H vu s.up ∧ Tri H vf s.foot ∧ Tri H vt s.head
structure SB (s : Scene) : Prop where
  l : PB 17 s.l
  u : PB 17 s.up
  f : PB 17 s.foot
  t : PB 17 s.head
  n : B 17 s.high
  f1 : s.foot.2.2 = 1
  t1 : s.head.2.2 = 1
  np : 0 < s.high
  ln : s.l.1 ≠ 0 ∨ s.l.2.1 ≠ 0
structure StB (st : State) : Prop where
  l : ∀ p, st.l = some p → PB 17 p ∧ (p.1 ≠ 0 ∨ p.2.1 ≠ 0)
  u : ∀ p, st.up = some p → PB 17 p
  p : ∀ f t n, st.post = some (f, t, n) → PB 17 f ∧ PB 17 t ∧ B 17 n ∧ f.2.2 = 1 ∧ t.2.2 = 1 ∧ 0 < n
def stOf (s : Scene) : State := ⟨some s.l, some s.up, some (s.foot, s.head, s.high)⟩
theorem StB.sb {s : Scene} (h : StB (stOf s)) : SB s := by
  obtain ⟨h1, h2⟩ := h.l s.l rfl
  obtain ⟨h3, h4, h5, h6, h7, h8⟩ := h.p s.foot s.head s.high rfl
  exact ⟨h1, h.u s.up rfl, h3, h4, h5, h6, h7, h8, h2⟩
theorem OptT.same {H H' : Hp} {v : V} {o : Option Pt} (h : OptT H v o) (e : Same H H') : OptT H' v o := by
  cases o with
  | none => exact h
  | some p => exact Tri.same h e
theorem PostT.same {H H' : Hp} {a b c : V} {o : Option (Pt × Pt × Int)} (h : PostT H a b c o) (e : Same H H') : PostT H' a b c o := by
  cases o with
  | none => exact h
  | some p => exact ⟨Tri.same h.1 e, Tri.same h.2.1 e, h.2.2⟩
theorem PicAt.same {C : Addr} {H H' : Hp} {x : V} {st : State} (h : PicAt C H x st) (e : Same H H') : PicAt C H' x st := by
  obtain ⟨a, dx, vh, vu, vf, vt, vn, h0, h1, h2, h3, h4⟩ := h.ex
  exact ⟨a, dx, vh, vu, vf, vt, vn, h0, e _ _ h1, h2.same e, h3.same e, h4.same e⟩
theorem ScAt.same {C : Addr} {H H' : Hp} {x : V} {s : Scene} (h : ScAt C H x s) (e : Same H H') : ScAt C H' x s := by
  obtain ⟨a, dx, vh, vu, vf, vt, h0, h1, h2, h3, h4, h5⟩ := h.ex
  exact ⟨a, dx, vh, vu, vf, vt, h0, e _ _ h1, h2.same e, h3.same e, h4.same e, h5.same e⟩
theorem PicAt.sc {C : Addr} {H : Hp} {x : V} {s : Scene} (h : PicAt C H x (stOf s)) : ScAt C H x s := by
  obtain ⟨a, dx, vh, vu, vf, vt, vn, h0, h1, h2, h3, h4, h5, h6⟩ := h.ex
  subst h6
  exact ⟨a, dx, vh, vu, vf, vt, h0, h1, h2, h3, h4, h5⟩
theorem Tri.ne {H : Hp} {v : V} {p : Pt} (t : Tri H v p) : v ≠ .non := by
  obtain ⟨a, rfl, _⟩ := t.ex
  intro z
  cases z
local macro_rules | `(tactic| walk_at "bb") => `(tactic| first | assumption | (apply B.mul <;> walk_at "bb") | (apply B.add <;> walk_at "bb") | (apply B.sub <;> walk_at "bb") | (apply B.neg; walk_at "bb"))
local macro_rules | `(tactic| walk_at "step") => `(tactic| first
  | with_reducible refine w_c ?_
  | ((with_reducible show tVar _ _ _ _); refine w_var (by exact rfl) ?_)
  | with_reducible refine w_op ?_
  | with_reducible refine w_un ?_
  | with_reducible refine w_rI0 ?_
  | with_reducible refine w_rU ?_
  | ((with_reducible show rI CMulW _ _ _ _ _); refine w_rI (by apply B.cmul <;> first | walk_at "bb" | decide) ?_)
  | ((with_reducible show rIxT _ _ _ _ _); refine w_ixT (by assumption) (by exact rfl) ?_)
  | ((with_reducible show rIxL _ _ _ _ _); refine w_ixL (by assumption) (by exact rfl) ?_)
  | with_reducible refine w_eq ?_
  | with_reducible refine w_ne ?_
  | with_reducible refine w_fld ?_
  | ((with_reducible show FldK _ _ _ _ _); refine w_fldk (by assumption) (by assumption) (by assumption) (by first | with_reducible exact pF_horizon | with_reducible exact pF_up | with_reducible exact pF_foot | with_reducible exact pF_head | with_reducible exact pF_height) ?_)
  | with_reducible refine w_cons ?_
  | with_reducible refine w_nil ?_
  | with_reducible refine w_cal ?_
  | with_reducible refine w_met ?_
  | ((with_reducible show MetK _ _ _ _ _ _ _ _); refine w_metk (by assumption) (by walk_at "nometh") ?_)
  | with_reducible refine w_tup ?_
  | with_reducible refine w_lst ?_
  | with_reducible refine w_cb ?_
  | with_reducible refine w_seq ?_
  | with_reducible refine w_asg ?_
  | with_reducible refine w_ret ?_
  | with_reducible refine w_if ?_
  | with_reducible refine w_next ?_
  | with_reducible refine w_test ?_
  | with_reducible refine w_tB ?_
  | with_reducible refine w_tstk ?_
  | with_reducible refine w_and ?_
  | with_reducible refine w_or ?_
  | with_reducible refine w_not ?_
  | with_reducible refine w_andV ?_
  | with_reducible refine w_notV ?_
  | ((with_reducible show V.non = V.non ∧ _); refine ⟨rfl, ?_⟩)
  | with_reducible refine w_notk ?_
  | with_reducible refine w_ifx ?_)
local macro_rules | `(tactic| walk_at "go") => `(tactic| repeat walk_at "step")
local macro_rules | `(tactic| walk_at "nometh") => `(tactic| (refine (lk_past (by decide +kernel)).trans ((lk_past (by decide +kernel)).trans ((lk_past (by decide +kernel)).trans ((lk_past (by decide +kernel)).trans ((lk_past (by decide +kernel)).trans rfl))))))
section
variable {P : Program} {w : World} {K : PySem.W.Frag} {mg : Str → Option Value} {base : Heap} {C : Addr}
/-! can_bear -/
abbrev s_can_bear : Stmt := inClass (top 7) 2
theorem sc_can_bear : FnScope ["self", "foot"] ["self", "foot"] (defScope s_can_bear) := ⟨rfl, rfl, rfl, by decide +kernel, rfl, by decide +kernel, by decide +kernel⟩
def bear (s : Scene) (f : Pt) : Bool := !decide (dot s.l f = 0) && !(alike f s.up)
def sp_can_bear (C : Addr) : Sp := fun vs H Q _ => ∃ x v s f, vs = [x, v] ∧ ScAt C H x s ∧ SB s ∧ Tri H v f ∧ PB 17 f ∧ ∀ H', Same H H' → Q (.bl (bear s f)) H'
theorem PB.up {p : Pt} (h : PB 17 p) : PB 4000 p := h.mono (by decide)
theorem ok_can_bear (T : Txt K mg C) (d : MF K C "can_bear" "Picture.can_bear" s_can_bear ["self", "foot"]) (c_makes : Cal P w K mg base 1 "makes" sp_makes) (c_is_same : Cal P w K mg base 2 "is_same" sp_is_same) :
    MCal P w K mg base 3 C "can_bear" (sp_can_bear C) := by
  refine d.cal sc_can_bear (fun vs H Q E h => ?_) (fun f cdv A outer s H vs Q E hr h => ⟨_, (pss_one (ps_ret (pe_and (pe_cmpR op_ne (pe_cal c_makes (hr.mono (by decide)) rfl (pa_cons (pe_fld (pv 0) rfl) (pa_cons (pv 1) pa_nil))) pe_int (nomark _)) (pe_one (pe_not (pe_cal c_is_same (hr.mono (by decide)) rfl (pa_cons (pv 1) (pa_cons (pe_fld (pv 0) rfl) pa_nil)))))))), ?_⟩)
  · obtain ⟨_, _, _, _, rfl, _⟩ := h
    rfl
  · obtain ⟨x, v, s, f, rfl, sa, sb, tf, bf, q⟩ := h
    obtain ⟨a, dx, vh, vu, vf, vt, rfl, h1, h2, h3, h4, h5⟩ := sa.ex
    obtain ⟨cl, a1, a2, a3, a4, a5⟩ := T.at_
    walk_at "go"
    refine ⟨_, _, _, _, rfl, h2, tf, sb.l.up, bf.up, ?_⟩
    walk_at "go"
    refine w_andk (fun e => ?_) (fun e => ?_)
    · walk_at "go"
      refine ⟨_, _, _, _, rfl, tf, h3, bf.up, sb.u.up, fun H' e1 => ?_⟩
      walk_at "go"
      have k := q H' e1
      unfold bear at k
      rw [e] at k
      exact k
    · have k := q H (Same.refl H)
      unfold bear at k
      rw [e] at k
      exact k
/-! is_standing -/
abbrev s_is_standing : Stmt := inClass (top 7) 3
theorem sc_is_standing : FnScope ["self", "foot", "head"] ["self", "foot", "head"] (defScope s_is_standing) := ⟨rfl, rfl, rfl, by decide +kernel, rfl, by decide +kernel, by decide +kernel⟩
def sp_is_standing (C : Addr) : Sp := fun vs H Q _ => ∃ x v u s f t, vs = [x, v, u] ∧ ScAt C H x s ∧ SB s ∧ Tri H v f ∧ PB 17 f ∧ Tri H u t ∧ PB 17 t ∧ ∀ H', Same H H' → Q (.bl (stands s f t)) H'
theorem stands_eq {s : Scene} {f t : Pt} : stands s f t = (bear s f && !(alike t s.up) && decide (dot (cross f t) s.up = 0)) := by
  unfold stands bear det
  rw [Bool.eq_iff_iff]
  simp only [Bool.and_eq_true, Bool.not_eq_true', decide_eq_true_eq, decide_eq_false_iff_not, bne_iff_ne, beq_iff_eq]
  constructor
  · rintro ⟨⟨⟨h1, h2⟩, h3⟩, h4⟩
    exact ⟨⟨⟨h1, h3⟩, h4⟩, h2⟩
  · rintro ⟨⟨⟨h1, h3⟩, h4⟩, h2⟩
    exact ⟨⟨⟨h1, h2⟩, h3⟩, h4⟩
theorem ok_is_standing (T : Txt K mg C) (d : MF K C "is_standing" "Picture.is_standing" s_is_standing ["self", "foot", "head"]) (c_makes : Cal P w K mg base 1 "makes" sp_makes) (c_cross : Cal P w K mg base 1 "cross" sp_cross) (c_is_same : Cal P w K mg base 2 "is_same" sp_is_same)
    (c_can_bear : MCal P w K mg base 3 C "can_bear" (sp_can_bear C)) : MCal P w K mg base 4 C "is_standing" (sp_is_standing C) := by
  refine d.cal sc_is_standing (fun vs H Q E h => ?_) (fun f cdv A outer s H vs Q E hr h => ⟨_, (pss_cons (ps_if (PW.pt (pw_or (pt_not (pt_val (pe_met c_can_bear T.cl (hr.mono (by decide)) (pv 0) (pa_cons (pv 1) pa_nil)))) (pw_or1 (pt_val (pe_cal c_is_same (hr.mono (by decide)) rfl (pa_cons (pv 2) (pa_cons (pe_fld (pv 0) rfl) pa_nil))))))) (pss_one (ps_ret pe_bl)) pss_nil)
      (pss_one (ps_ret (pe_cmpR op_eq (pe_cal c_makes (hr.mono (by decide)) rfl (pa_cons (pe_cal c_cross (hr.mono (by decide)) rfl (pa_cons (pv 1) (pa_cons (pv 2) pa_nil))) (pa_cons (pe_fld (pv 0) rfl) pa_nil))) pe_int (nomark _))))), ?_⟩)
  · obtain ⟨_, _, _, _, _, _, rfl, _⟩ := h
    rfl
  · obtain ⟨x, v, u, s, f, t, rfl, sa, sb, tf, bf, tt, bt, q⟩ := h
    obtain ⟨a, dx, vh, vu, vf, vt, rfl, h1, h2, h3, h4, h5⟩ := sa.ex
    obtain ⟨cl, a1, a2, a3, a4, a5⟩ := T.at_
    rw [stands_eq] at q
    walk_at "go"
    refine ⟨_, _, s, f, rfl, sa, sb, tf, bf, fun H1 e1 => ?_⟩
    replace h1 := e1 _ _ h1
    replace h3 := h3.same e1
    replace tf := tf.same e1
    replace tt := tt.same e1
    walk_at "go"
    cases hb : bear s f with
    | false =>
      refine ite_t rfl ?_
      refine ite_t rfl ?_
      walk_at "go"
      rw [hb] at q
      exact q _ e1
    | true =>
      rw [hb] at q
      refine ite_f rfl ?_
      walk_at "go"
      refine ⟨_, _, _, _, rfl, tt, h3, bt.up, sb.u.up, fun H2 e2 => ?_⟩
      replace h1 := e2 _ _ h1
      replace h3 := h3.same e2
      replace tf := tf.same e2
      replace tt := tt.same e2
      walk_at "go"
      cases hs : alike t s.up with
      | true =>
        rw [hs] at q
        refine ite_t rfl ?_
        walk_at "go"
        exact q _ (e1.trans e2)
      | false =>
        rw [hs] at q
        refine ite_f rfl ?_
        walk_at "go"
        refine ⟨_, _, _, _, rfl, tf, tt, bf.up, bt.up, fun y H3 e3 ty => ?_⟩
        replace h1 := e3 _ _ h1
        replace h3 := h3.same e3
        walk_at "go"
        refine ⟨_, _, _, _, rfl, ty, h3, (PB_cross bf bt).mono (by decide), sb.u.up, ?_⟩
        walk_at "go"
        exact q _ ((e1.trans e2).trans e3)
end
end TW
namespace TW
open PySem PySem.Spec PyProof.Rows L2 Kqy3
local macro_rules | `(tactic| walk_at "bb") => `(tactic| first | assumption | (apply B.mul <;> walk_at "bb") | (apply B.add <;> walk_at "bb") | (apply B.sub <;> walk_at "bb") | (apply B.neg; walk_at "bb"))
local macro_rules | `(tactic| walk_at "step") => `(tactic| first
  | with_reducible refine w_c ?_
  | ((with_reducible show tVar _ _ _ _); refine w_var (by exact rfl) ?_)
  | with_reducible refine w_op ?_
  | with_reducible refine w_un ?_
  | with_reducible refine w_rI0 ?_
  | with_reducible refine w_rU ?_
  | ((with_reducible show rI CMulW _ _ _ _ _); refine w_rI (by apply B.cmul <;> first | walk_at "bb" | decide) ?_)
  | ((with_reducible show rIxT _ _ _ _ _); refine w_ixT (by assumption) (by exact rfl) ?_)
  | ((with_reducible show rIxL _ _ _ _ _); refine w_ixL (by assumption) (by exact rfl) ?_)
  | with_reducible refine w_eq ?_
  | with_reducible refine w_ne ?_
  | with_reducible refine w_fld ?_
  | ((with_reducible show FldK _ _ _ _ _); refine w_fldk (by assumption) (by assumption) (by assumption) (by first | with_reducible exact pF_horizon | with_reducible exact pF_up | with_reducible exact pF_foot | with_reducible exact pF_head | with_reducible exact pF_height) ?_)
  | with_reducible refine w_cons ?_
  | with_reducible refine w_nil ?_
  | with_reducible refine w_cal ?_
  | with_reducible refine w_met ?_
  | ((with_reducible show MetK _ _ _ _ _ _ _ _); refine w_metk (by assumption) (by walk_at "nometh") ?_)
  | with_reducible refine w_tup ?_
  | with_reducible refine w_lst ?_
  | with_reducible refine w_cb ?_
  | with_reducible refine w_seq ?_
  | with_reducible refine w_asg ?_
  | with_reducible refine w_ret ?_
  | with_reducible refine w_if ?_
  | with_reducible refine w_next ?_
  | with_reducible refine w_test ?_
  | with_reducible refine w_tB ?_
  | with_reducible refine w_tstk ?_
  | with_reducible refine w_and ?_
  | with_reducible refine w_or ?_
  | with_reducible refine w_not ?_
  | with_reducible refine w_andV ?_
  | with_reducible refine w_notV ?_
  | ((with_reducible show V.non = V.non ∧ _); refine ⟨rfl, ?_⟩)
  | with_reducible refine w_notk ?_
  | with_reducible refine w_ifx ?_)
local macro_rules | `(tactic| walk_at "go") => `(tactic| repeat walk_at "step")
local macro_rules | `(tactic| walk_at "nometh") => `(tactic| (refine (lk_past (by decide +kernel)).trans ((lk_past (by decide +kernel)).trans ((lk_past (by decide +kernel)).trans ((lk_past (by decide +kernel)).trans ((lk_past (by decide +kernel)).trans rfl))))))
section
variable {P : Program} {w : World} {K : PySem.W.Frag} {mg : Str → Option Value} {base : Heap} {C : Addr}
/-! is_ready -/
abbrev s_is_ready : Stmt := inClass (top 7) 1
theorem sc_is_ready : FnScope ["self"] ["self"] (defScope s_is_ready) := ⟨rfl, rfl, rfl, by decide +kernel, rfl, by decide +kernel, by decide +kernel⟩
def sp_is_ready (C : Addr) : Sp := fun vs H Q _ => ∃ x st, vs = [x] ∧ PicAt C H x st ∧ StB st ∧ ∀ H', Same H H' → Q (.bl (sceneOf st).isSome) H'
theorem ready_eq {s : Scene} (ln : s.l.1 ≠ 0 ∨ s.l.2.1 ≠ 0) : (sceneOf (stOf s)).isSome = (!decide (dot s.l s.up = 0) && !(alike s.foot s.head) && stands s s.foot s.head) := by
  have e : (sceneOf (stOf s)).isSome = okScene s := by
    unfold sceneOf stOf
    simp only
    cases okScene s <;> simp
  rw [e]
  unfold okScene
  rw [Bool.eq_iff_iff]
  simp only [Bool.and_eq_true, Bool.or_eq_true, Bool.not_eq_true', decide_eq_false_iff_not, bne_iff_ne]
  constructor
  · rintro ⟨⟨⟨_, h2⟩, h3⟩, h4⟩
    exact ⟨⟨h2, h4⟩, h3⟩
  · rintro ⟨⟨h2, h4⟩, h3⟩
    exact ⟨⟨⟨ln, h2⟩, h3⟩, h4⟩
theorem ok_is_ready (T : Txt K mg C) (d : MF K C "is_ready" "Picture.is_ready" s_is_ready ["self"]) (c_makes : Cal P w K mg base 1 "makes" sp_makes) (c_is_same : Cal P w K mg base 2 "is_same" sp_is_same)
    (c_is_standing : MCal P w K mg base 4 C "is_standing" (sp_is_standing C)) : MCal P w K mg base 5 C "is_ready" (sp_is_ready C) := by
  refine d.cal sc_is_ready (fun vs H Q E h => ?_) (fun f cdv A outer s H vs Q E hr h => ⟨_, (pss_cons (ps_if (PW.pt (pw_or (pt_cmpR op_isN (pe_fld (pv 0) rfl) pe_non (nomark _)) (pw_or (pt_cmpR op_isN (pe_fld (pv 0) rfl) pe_non (nomark _)) (pw_or1 (pt_cmpR op_isN (pe_fld (pv 0) rfl) pe_non (nomark _)))))) (pss_one (ps_ret pe_bl)) pss_nil)
      (pss_cons (ps_if (pt_cmpR op_eq (pe_cal c_makes (hr.mono (by decide)) rfl (pa_cons (pe_fld (pv 0) rfl) (pa_cons (pe_fld (pv 0) rfl) pa_nil))) pe_int (nomark _)) (pss_one (ps_ret pe_bl)) pss_nil)
      (pss_cons (ps_if (pt_val (pe_cal c_is_same (hr.mono (by decide)) rfl (pa_cons (pe_fld (pv 0) rfl) (pa_cons (pe_fld (pv 0) rfl) pa_nil)))) (pss_one (ps_ret pe_bl)) pss_nil)
      (pss_one (ps_ret (pe_met c_is_standing T.cl (hr.mono (by decide)) (pv 0) (pa_cons (pe_fld (pv 0) rfl) (pa_cons (pe_fld (pv 0) rfl) pa_nil)))))))), ?_⟩)
  · obtain ⟨_, _, rfl, _⟩ := h
    rfl
  · obtain ⟨x, st, rfl, pa, sb, q⟩ := h
    obtain ⟨a, dx, vh, vu, vf, vt, vn, rfl, h1, h2, h3, h4⟩ := pa.ex
    obtain ⟨cl, a1, a2, a3, a4, a5⟩ := T.at_
    obtain ⟨ol, ou, op⟩ := st
    walk_at "go"
    cases ol with
    | none =>
      cases h2
      refine ite_t rfl ?_
      refine ite_t rfl ?_
      walk_at "go"
      exact q _ (Same.refl H)
    | some l =>
      refine ite_f (decide_eq_false (Tri.ne h2)) ?_
      walk_at "go"
      cases ou with
      | none =>
        cases h3
        refine ite_t rfl ?_
        refine ite_t rfl ?_
        walk_at "go"
        exact q _ (Same.refl H)
      | some u =>
        refine ite_f (decide_eq_false (Tri.ne h3)) ?_
        walk_at "go"
        cases op with
        | none =>
          obtain ⟨rfl, rfl, rfl⟩ := h4
          refine ite_t rfl ?_
          walk_at "go"
          exact q _ (Same.refl H)
        | some p =>
          obtain ⟨h4, h5, rfl⟩ := h4
          refine ite_f (decide_eq_false (Tri.ne h4)) ?_
          obtain ⟨pf, pt, pn⟩ := p
          let s : Scene := ⟨l, u, pf, pt, pn⟩
          have sa : ScAt C H (.ref a) s := PicAt.sc (s := s) pa
          have sB : SB s := StB.sb (s := s) sb
          have q' : ∀ H', Same H H' → Q (.bl (!decide (dot l u = 0) && !(alike pf pt) && stands s pf pt)) H' := by
            intro H' e
            rw [← ready_eq (s := s) sB.ln]
            exact q H' e
          walk_at "go"
          refine ⟨_, _, _, _, rfl, h2, h3, sB.l.up, sB.u.up, ?_⟩
          walk_at "go"
          refine ite_d (fun e => ?_) (fun e => ?_)
          · walk_at "go"
            have k := q' _ (Same.refl H)
            rw [decide_eq_true e] at k
            exact k
          · rw [decide_eq_false e] at q'
            walk_at "go"
            refine ⟨_, _, _, _, rfl, h4, h5, sB.f.up, sB.t.up, fun H1 e1 => ?_⟩
            replace h1 := e1 _ _ h1
            replace h4 := h4.same e1
            replace h5 := h5.same e1
            walk_at "go"
            cases hs : alike pf pt with
            | true =>
              rw [hs] at q'
              refine ite_t rfl ?_
              walk_at "go"
              exact q' _ e1
            | false =>
              rw [hs] at q'
              refine ite_f rfl ?_
              walk_at "go"
              exact ⟨_, _, _, s, pf, pt, rfl, sa.same e1, sB, h4, sB.f, h5, sB.t, fun H2 e2 => q' _ (e1.trans e2)⟩
/-! rise, scale -/
abbrev s_rise : Stmt := inClass (top 7) 4
theorem sc_rise : FnScope ["self", "foot", "head", "across"] ["self", "foot", "head"] (defScope s_rise) := ⟨rfl, rfl, rfl, by decide +kernel, rfl, by decide +kernel, by decide +kernel⟩
def sp_rise (C : Addr) : Sp := fun vs H Q _ => ∃ x v u s f t, vs = [x, v, u] ∧ ScAt C H x s ∧ SB s ∧ Tri H v f ∧ PB 17 f ∧ Tri H u t ∧ PB 17 t ∧ ∀ y H', Same H H' → Duo H' y (TP.riseP s.up f t) → Q y H'
theorem ok_rise (T : Txt K mg C) (d : MF K C "rise" "Picture.rise" s_rise ["self", "foot", "head"]) : MCal P w K mg base 1 C "rise" (sp_rise C) := by
  refine d.cal sc_rise (fun vs H Q E h => ?_) (fun f cdv A outer s H vs Q E hr h => ⟨_, (pss_cons (ps_set (i := 3) sc_rise.nd rfl (Or.inl rfl) (pe_op op_sub (pe_ix ix_tup (pe_fld (pv 0) rfl) pe_int (fun _ _ => rfl)) (pe_op op_mulW (pe_ix ix_tup (pe_fld (pv 0) rfl) pe_int (fun _ _ => rfl)) (pe_ix ix_tup (pv 2) pe_int (fun _ _ => rfl)))))
      (pss_cons (ps_if (pt_cmpR op_ne (pv 3) pe_int (nomark _)) (pss_one (ps_ret (pe_tup (pa_cons (pe_op op_sub (pe_ix ix_tup (pv 1) pe_int (fun _ _ => rfl)) (pe_ix ix_tup (pv 2) pe_int (fun _ _ => rfl))) (pa_cons (pv 3) pa_nil))))) pss_nil)
      (pss_one (ps_ret (pe_tup (pa_cons (pe_op op_sub (pe_ix ix_tup (pv 1) pe_int (fun _ _ => rfl)) (pe_ix ix_tup (pv 2) pe_int (fun _ _ => rfl))) (pa_cons (pe_op op_sub (pe_ix ix_tup (pe_fld (pv 0) rfl) pe_int (fun _ _ => rfl)) (pe_op op_mulW (pe_ix ix_tup (pe_fld (pv 0) rfl) pe_int (fun _ _ => rfl)) (pe_ix ix_tup (pv 2) pe_int (fun _ _ => rfl)))) pa_nil))))))), ?_⟩)
  · obtain ⟨_, _, _, _, _, _, rfl, _⟩ := h
    rfl
  · obtain ⟨x, v, u, s, f, t, rfl, sa, sb, tf, bf, tt, bt, q⟩ := h
    obtain ⟨a, dx, vh, vu, vf, vt, rfl, h1, h2, h3, h4, h5⟩ := sa.ex
    obtain ⟨cl, a1, a2, a3, a4, a5⟩ := T.at_
    obtain ⟨au, rfl, hu⟩ := h3.ex
    obtain ⟨af, rfl, hf⟩ := tf.ex
    obtain ⟨at', rfl, ht⟩ := tt.ex
    obtain ⟨b1, b2, b3⟩ := sb.u
    obtain ⟨b4, b5, b6⟩ := bf
    obtain ⟨b7, b8, b9⟩ := bt
    walk_at "go"
    refine ite_n (fun hn => ?_) (fun hn => ?_)
    · walk_at "go"
      refine w_newT (by show 2 ≤ sizeLine; decide) fun p H' e _ hp => q _ _ e ⟨p, rfl, ?_⟩
      rw [hp]
      unfold TP.riseP
      rw [if_pos hn]
      rfl
    · walk_at "go"
      refine w_newT (by show 2 ≤ sizeLine; decide) fun p H' e _ hp => q _ _ e ⟨p, rfl, ?_⟩
      rw [hp]
      unfold TP.riseP
      rw [if_neg (fun z => z hn)]
      rfl
theorem B_rise {u f t : Pt} (hu : PB 17 u) (hf : PB 17 f) (ht : PB 17 t) : B 36 (TP.riseP u f t).1 ∧ B 36 (TP.riseP u f t).2 := by
  unfold TP.riseP
  split
  · exact ⟨(hf.a.sub' ht.a).mono (by decide), ((hu.a.mono (by decide)).sub' (hu.c.mul ht.a)).mono (by decide)⟩
  · exact ⟨(hf.b.sub' ht.b).mono (by decide), ((hu.b.mono (by decide)).sub' (hu.c.mul ht.b)).mono (by decide)⟩
abbrev s_scale : Stmt := inClass (top 7) 5
theorem sc_scale : FnScope ["self", "post_rise", "post_makes"] ["self"] (defScope s_scale) := ⟨rfl, rfl, rfl, by decide +kernel, rfl, by decide +kernel, by decide +kernel⟩
def sp_scale (C : Addr) : Sp := fun vs H Q _ => ∃ x s, vs = [x] ∧ ScAt C H x s ∧ SB s ∧ ∀ y H', Same H H' → Duo H' y (TP.scaleP s) → Q y H'
theorem ok_scale (T : Txt K mg C) (d : MF K C "scale" "Picture.scale" s_scale ["self"]) (c_makes : Cal P w K mg base 1 "makes" sp_makes) (c_rise : MCal P w K mg base 1 C "rise" (sp_rise C)) : MCal P w K mg base 2 C "scale" (sp_scale C) := by
  refine d.cal sc_scale (fun vs H Q E h => ?_) (fun f cdv A outer s H vs Q E hr h => ⟨_, (pss_cons (ps_set (i := 1) sc_scale.nd rfl (Or.inl rfl) (pe_met c_rise T.cl (hr.mono (by decide)) (pv 0) (pa_cons (pe_fld (pv 0) rfl) (pa_cons (pe_fld (pv 0) rfl) pa_nil))))
      (pss_cons (ps_set (i := 2) sc_scale.nd rfl (Or.inl rfl) (pe_cal c_makes (hr.mono (by decide)) rfl (pa_cons (pe_fld (pv 0) rfl) (pa_cons (pe_fld (pv 0) rfl) pa_nil))))
      (pss_one (ps_ret (pe_tup (pa_cons (pe_op op_mulW (pe_op op_mulW (pe_fld (pv 0) rfl) (pv 2)) (pe_ix ix_tup (pv 1) pe_int (fun _ _ => rfl))) (pa_cons (pe_ix ix_tup (pv 1) pe_int (fun _ _ => rfl)) pa_nil))))))), ?_⟩)
  · obtain ⟨_, _, rfl, _⟩ := h
    rfl
  · obtain ⟨x, s, rfl, sa, sb, q⟩ := h
    obtain ⟨a, dx, vh, vu, vf, vt, rfl, h1, h2, h3, h4, h5⟩ := sa.ex
    obtain ⟨cl, a1, a2, a3, a4, a5⟩ := T.at_
    have b1 := B_rise sb.u sb.f sb.t
    have b2 := b1.2
    have b3 := B_dot sb.l sb.f
    have b4 := sb.n
    walk_at "go"
    refine ⟨_, _, _, s, _, _, rfl, sa, sb, h4, sb.f, h5, sb.t, fun y H1 e1 ty => ?_⟩
    replace h1 := e1 _ _ h1
    replace h2 := h2.same e1
    replace h4 := h4.same e1
    obtain ⟨ay, rfl, hy⟩ := ty.ex
    walk_at "go"
    refine ⟨_, _, _, _, rfl, h2, h4, sb.l.up, sb.f.up, ?_⟩
    walk_at "go"
    exact w_newT (by show 2 ≤ sizeLine; decide) fun p H' e _ hp => q _ _ (e1.trans e) ⟨p, rfl, hp⟩
end
end TW
namespace TW
open PySem PySem.Spec PyProof.Rows L2 Kqy3
local macro_rules | `(tactic| walk_at "bb") => `(tactic| first | assumption | (apply B.mul <;> walk_at "bb") | (apply B.add <;> walk_at "bb") | (apply B.sub <;> walk_at "bb") | (apply B.neg; walk_at "bb"))
local macro_rules | `(tactic| walk_at "step") => `(tactic| first
  | with_reducible refine w_c ?_
  | ((with_reducible show tVar _ _ _ _); refine w_var (by exact rfl) ?_)
  | with_reducible refine w_op ?_
  | with_reducible refine w_un ?_
  | with_reducible refine w_rI0 ?_
  | with_reducible refine w_rU ?_
  | ((with_reducible show rI CMulW _ _ _ _ _); refine w_rI (by apply B.cmul <;> first | walk_at "bb" | decide) ?_)
  | ((with_reducible show rIxT _ _ _ _ _); refine w_ixT (by assumption) (by exact rfl) ?_)
  | ((with_reducible show rIxL _ _ _ _ _); refine w_ixL (by assumption) (by exact rfl) ?_)
  | with_reducible refine w_eq ?_
  | with_reducible refine w_ne ?_
  | with_reducible refine w_fld ?_
  | ((with_reducible show FldK _ _ _ _ _); refine w_fldk (by assumption) (by assumption) (by assumption) (by first | with_reducible exact pF_horizon | with_reducible exact pF_up | with_reducible exact pF_foot | with_reducible exact pF_head | with_reducible exact pF_height) ?_)
  | with_reducible refine w_cons ?_
  | with_reducible refine w_nil ?_
  | with_reducible refine w_cal ?_
  | with_reducible refine w_met ?_
  | ((with_reducible show MetK _ _ _ _ _ _ _ _); refine w_metk (by assumption) (by walk_at "nometh") ?_)
  | with_reducible refine w_tup ?_
  | with_reducible refine w_lst ?_
  | with_reducible refine w_cb ?_
  | with_reducible refine w_seq ?_
  | with_reducible refine w_asg ?_
  | with_reducible refine w_ret ?_
  | with_reducible refine w_if ?_
  | with_reducible refine w_next ?_
  | with_reducible refine w_test ?_
  | with_reducible refine w_tB ?_
  | with_reducible refine w_tstk ?_
  | with_reducible refine w_and ?_
  | with_reducible refine w_or ?_
  | with_reducible refine w_not ?_
  | with_reducible refine w_andV ?_
  | with_reducible refine w_notV ?_
  | ((with_reducible show V.non = V.non ∧ _); refine ⟨rfl, ?_⟩)
  | with_reducible refine w_notk ?_
  | with_reducible refine w_ifx ?_)
local macro_rules | `(tactic| walk_at "go") => `(tactic| repeat walk_at "step")
local macro_rules | `(tactic| walk_at "nometh") => `(tactic| (refine (lk_past (by decide +kernel)).trans ((lk_past (by decide +kernel)).trans ((lk_past (by decide +kernel)).trans ((lk_past (by decide +kernel)).trans ((lk_past (by decide +kernel)).trans rfl))))))
section
variable {P : Program} {w : World} {K : PySem.W.Frag} {mg : Str → Option Value} {base : Heap} {C : Addr}
theorem B_scale {s : Scene} (sb : SB s) : B 100 (TP.scaleP s).1 ∧ B 36 (TP.scaleP s).2 := by
  have b1 := B_rise sb.u sb.f sb.t
  exact ⟨((sb.n.mul (B_dot sb.l sb.f)).mul b1.2).mono (by decide), b1.1⟩
theorem B_meas {s : Scene} {f t : Pt} (sb : SB s) (hf : PB 17 f) (ht : PB 17 t) : B 200 (TP.measP s f t).1 ∧ B 200 (TP.measP s f t).2 := by
  have b1 := B_rise sb.u hf ht
  have b2 := B_scale sb
  exact ⟨(b1.1.mul b2.1).mono (by decide), ((b1.2.mul b2.2).mul (B_dot sb.l hf)).mono (by decide)⟩
/-! measure, eye_height, place_head -/
abbrev s_measure : Stmt := inClass (top 7) 6
theorem sc_measure : FnScope ["self", "foot", "head", "own_rise", "by_post"] ["self", "foot", "head"] (defScope s_measure) := ⟨rfl, rfl, rfl, by decide +kernel, rfl, by decide +kernel, by decide +kernel⟩
def sp_measure (C : Addr) : Sp := fun vs H Q _ => ∃ x v u s f t, vs = [x, v, u] ∧ ScAt C H x s ∧ SB s ∧ Tri H v f ∧ PB 17 f ∧ Tri H u t ∧ PB 17 t ∧ (TP.measP s f t).2 ≠ 0 ∧ ∀ y H', Same H H' → Duo H' y (TP.low (TP.measP s f t).1 (TP.measP s f t).2) → Q y H'
theorem ok_measure (T : Txt K mg C) (d : MF K C "measure" "Picture.measure" s_measure ["self", "foot", "head"]) (c_makes : Cal P w K mg base 1 "makes" sp_makes) (c_lowest : Cal P w K mg base 2 "lowest" sp_lowest)
    (c_rise : MCal P w K mg base 1 C "rise" (sp_rise C)) (c_scale : MCal P w K mg base 2 C "scale" (sp_scale C)) : MCal P w K mg base 3 C "measure" (sp_measure C) := by
  refine d.cal sc_measure (fun vs H Q E h => ?_) (fun f cdv A outer s H vs Q E hr h => ⟨_, (pss_cons (ps_set (i := 3) sc_measure.nd rfl (Or.inl rfl) (pe_met c_rise T.cl (hr.mono (by decide)) (pv 0) (pa_cons (pv 1) (pa_cons (pv 2) pa_nil))))
      (pss_cons (ps_set (i := 4) sc_measure.nd rfl (Or.inl rfl) (pe_met0 c_scale T.cl (hr.mono (by decide)) (pv 0)))
      (pss_one (ps_ret (pe_cal c_lowest (hr.mono (by decide)) rfl (pa_cons (pe_op op_mulW (pe_ix ix_tup (pv 3) pe_int (fun _ _ => rfl)) (pe_ix ix_tup (pv 4) pe_int (fun _ _ => rfl))) (pa_cons (pe_op op_mulW (pe_op op_mulW (pe_ix ix_tup (pv 3) pe_int (fun _ _ => rfl)) (pe_ix ix_tup (pv 4) pe_int (fun _ _ => rfl))) (pe_cal c_makes (hr.mono (by decide)) rfl (pa_cons (pe_fld (pv 0) rfl) (pa_cons (pv 1) pa_nil)))) pa_nil))))))), ?_⟩)
  · obtain ⟨_, _, _, _, _, _, rfl, _⟩ := h
    rfl
  · obtain ⟨x, v, u, s, f, t, rfl, sa, sb, tf, bf, tt, bt, nz, q⟩ := h
    obtain ⟨a, dx, vh, vu, vf, vt, rfl, h1, h2, h3, h4, h5⟩ := sa.ex
    obtain ⟨cl, a1, a2, a3, a4, a5⟩ := T.at_
    obtain ⟨b1, b2⟩ := B_rise sb.u bf bt
    obtain ⟨b3, b4⟩ := B_scale sb
    have b5 := B_dot sb.l bf
    walk_at "go"
    refine ⟨_, _, _, s, f, t, rfl, sa, sb, tf, bf, tt, bt, fun y H1 e1 ty => ?_⟩
    replace h1 := e1 _ _ h1
    walk_at "go"
    refine ⟨_, s, rfl, sa.same e1, sb, fun z H2 e2 tz => ?_⟩
    replace h1 := e2 _ _ h1
    replace ty := ty.same e2
    obtain ⟨ay, rfl, hy⟩ := ty.ex
    obtain ⟨az, rfl, hz⟩ := tz.ex
    walk_at "go"
    refine ⟨_, _, _, _, rfl, h2.same (e1.trans e2), tf.same (e1.trans e2), sb.l.up, bf.up, ?_⟩
    walk_at "go"
    exact ⟨_, _, rfl, nz, (B_meas sb bf bt).2.mono (by decide), fun y H3 e3 ty => q _ _ ((e1.trans e2).trans e3) ty⟩
abbrev s_eye_height : Stmt := inClass (top 7) 7
theorem sc_eye_height : FnScope ["self", "by_post"] ["self"] (defScope s_eye_height) := ⟨rfl, rfl, rfl, by decide +kernel, rfl, by decide +kernel, by decide +kernel⟩
def sp_eye_height (C : Addr) : Sp := fun vs H Q _ => ∃ x s, vs = [x] ∧ ScAt C H x s ∧ SB s ∧ (TP.eyeP s).2 ≠ 0 ∧ ∀ y H', Same H H' → Duo H' y (TP.low (TP.eyeP s).1 (TP.eyeP s).2) → Q y H'
theorem ok_eye_height (T : Txt K mg C) (d : MF K C "eye_height" "Picture.eye_height" s_eye_height ["self"]) (c_makes : Cal P w K mg base 1 "makes" sp_makes) (c_lowest : Cal P w K mg base 2 "lowest" sp_lowest)
    (c_scale : MCal P w K mg base 2 C "scale" (sp_scale C)) : MCal P w K mg base 3 C "eye_height" (sp_eye_height C) := by
  refine d.cal sc_eye_height (fun vs H Q E h => ?_) (fun f cdv A outer s H vs Q E hr h => ⟨_, (pss_cons (ps_set (i := 1) sc_eye_height.nd rfl (Or.inl rfl) (pe_met0 c_scale T.cl (hr.mono (by decide)) (pv 0)))
      (pss_one (ps_ret (pe_cal c_lowest (hr.mono (by decide)) rfl (pa_cons (pe_ix ix_tup (pv 1) pe_int (fun _ _ => rfl)) (pa_cons (pe_op op_mulW (pe_ix ix_tup (pv 1) pe_int (fun _ _ => rfl)) (pe_cal c_makes (hr.mono (by decide)) rfl (pa_cons (pe_fld (pv 0) rfl) (pa_cons (pe_fld (pv 0) rfl) pa_nil)))) pa_nil)))))), ?_⟩)
  · obtain ⟨_, _, rfl, _⟩ := h
    rfl
  · obtain ⟨x, s, rfl, sa, sb, nz, q⟩ := h
    obtain ⟨a, dx, vh, vu, vf, vt, rfl, h1, h2, h3, h4, h5⟩ := sa.ex
    obtain ⟨cl, a1, a2, a3, a4, a5⟩ := T.at_
    obtain ⟨b3, b4⟩ := B_scale sb
    have b5 := B_dot sb.l sb.u
    walk_at "go"
    refine ⟨_, s, rfl, sa, sb, fun z H2 e2 tz => ?_⟩
    replace h1 := e2 _ _ h1
    obtain ⟨az, rfl, hz⟩ := tz.ex
    walk_at "go"
    refine ⟨_, _, _, _, rfl, h2.same e2, h3.same e2, sb.l.up, sb.u.up, ?_⟩
    walk_at "go"
    exact ⟨_, _, rfl, nz, (b4.mul b5).mono (by decide), fun y H3 e3 ty => q _ _ (e2.trans e3) ty⟩
abbrev s_place_head : Stmt := inClass (top 7) 11
theorem sc_place_head : FnScope ["self", "foot", "above", "below", "by_post", "rise_above", "rise_below"] ["self", "foot", "above", "below"] (defScope s_place_head) := ⟨rfl, rfl, rfl, by decide +kernel, rfl, by decide +kernel, by decide +kernel⟩
def sp_place_head (C : Addr) : Sp := fun vs H Q _ => ∃ x v s f p r, vs = [x, v, .int p, .int r] ∧ ScAt C H x s ∧ SB s ∧ Tri H v f ∧ PB 17 f ∧ B 300 p ∧ B 300 r ∧ ∀ y H', Same H H' → Tri H' y (TP.headP s f p r) → Q y H'
theorem ok_place_head (T : Txt K mg C) (d : MF K C "place_head" "Picture.place_head" s_place_head ["self", "foot", "above", "below"]) (c_makes : Cal P w K mg base 1 "makes" sp_makes)
    (c_scale : MCal P w K mg base 2 C "scale" (sp_scale C)) : MCal P w K mg base 3 C "place_head" (sp_place_head C) := by
  refine d.cal sc_place_head (fun vs H Q E h => ?_) (fun f cdv A outer s H vs Q E hr h => ⟨_, (pss_cons (ps_set (i := 4) sc_place_head.nd rfl (Or.inl rfl) (pe_met0 c_scale T.cl (hr.mono (by decide)) (pv 0)))
      (pss_cons (ps_set (i := 5) sc_place_head.nd rfl (Or.inl rfl) (pe_op op_mulW (pe_op op_mulW (pv 2) (pe_cal c_makes (hr.mono (by decide)) rfl (pa_cons (pe_fld (pv 0) rfl) (pa_cons (pv 1) pa_nil)))) (pe_ix ix_tup (pv 4) pe_int (fun _ _ => rfl))))
      (pss_cons (ps_set (i := 6) sc_place_head.nd rfl (Or.inl rfl) (pe_op op_mulW (pv 3) (pe_ix ix_tup (pv 4) pe_int (fun _ _ => rfl))))
      (pss_one (ps_ret (pe_tup (pa_cons (pe_op op_sub (pe_op op_mulW (pv 6) (pe_ix ix_tup (pv 1) pe_int (fun _ _ => rfl))) (pe_op op_mulW (pv 5) (pe_ix ix_tup (pe_fld (pv 0) rfl) pe_int (fun _ _ => rfl)))) (pa_cons (pe_op op_sub (pe_op op_mulW (pv 6) (pe_ix ix_tup (pv 1) pe_int (fun _ _ => rfl))) (pe_op op_mulW (pv 5) (pe_ix ix_tup (pe_fld (pv 0) rfl) pe_int (fun _ _ => rfl)))) (pa_cons (pe_op op_sub (pe_op op_mulW (pv 6) (pe_ix ix_tup (pv 1) pe_int (fun _ _ => rfl))) (pe_op op_mulW (pv 5) (pe_ix ix_tup (pe_fld (pv 0) rfl) pe_int (fun _ _ => rfl)))) pa_nil))))))))), ?_⟩)
  · obtain ⟨_, _, _, _, _, _, rfl, _⟩ := h
    rfl
  · obtain ⟨x, v, s, f, p, r, rfl, sa, sb, tf, bf, bp, br, q⟩ := h
    obtain ⟨a, dx, vh, vu, vf, vt, rfl, h1, h2, h3, h4, h5⟩ := sa.ex
    obtain ⟨cl, a1, a2, a3, a4, a5⟩ := T.at_
    obtain ⟨b3, b4⟩ := B_scale sb
    have b5 := B_dot sb.l bf
    obtain ⟨b6, b7, b8⟩ := bf
    obtain ⟨b9, b10, b11⟩ := sb.u
    walk_at "go"
    refine ⟨_, s, rfl, sa, sb, fun z H2 e2 tz => ?_⟩
    replace h1 := e2 _ _ h1
    obtain ⟨az, rfl, hz⟩ := tz.ex
    replace tf := tf.same e2
    replace h3 := h3.same e2
    walk_at "go"
    refine ⟨_, _, _, _, rfl, h2.same e2, tf, sb.l.up, PB.up ⟨b6, b7, b8⟩, ?_⟩
    obtain ⟨af, rfl, hf⟩ := tf.ex
    obtain ⟨au, rfl, hu⟩ := h3.ex
    walk_at "go"
    exact w_newT (by show 3 ≤ sizeLine; decide) fun p H' e _ hp => q _ _ (e2.trans e) ⟨p, rfl, hp⟩
/-! are_within, are_seen, is_height -/
abbrev s_are_within : Stmt := top 16
theorem sc_are_within : FnScope ["numbers", "least", "most", "number"] ["numbers", "least", "most"] (defScope s_are_within) := ⟨rfl, rfl, rfl, by decide +kernel, rfl, by decide +kernel, by decide +kernel⟩
def inR (lo hi z : Int) : Bool := decide (lo ≤ z) && decide (z ≤ hi)
def sp_are_within (K : PySem.W.Frag) : Sp := fun vs H Q _ => ∃ (a : Addr) (ns : List Int) (lo hi : Int), vs = [.ref a, .int lo, .int hi] ∧ SqL K H a (ns.map V.int) ∧ Q (.bl (ns.all (inR lo hi))) H
theorem all_at {ns : List Int} {i : Nat} {z : Int} {p : Int → Bool} (h : ns[i]? = some z) (k : (ns.take i).all p = true) (hz : p z = true) : (ns.take (i + 1)).all p = true := by
  rw [List.take_add_one, h]
  simp [k, hz]
theorem all_not {ns : List Int} {i : Nat} {z : Int} {p : Int → Bool} (h : ns[i]? = some z) (hz : p z = false) : ns.all p = false := by
  rw [List.all_eq_false]
  exact ⟨z, List.mem_of_getElem? h, by rw [hz]; exact Bool.false_ne_true⟩
theorem int_at {ns : List Int} {i : Nat} {y : V} (hi : (ns.map V.int)[i]? = some y) : ∃ z, ns[i]? = some z ∧ y = V.int z := by
  rw [List.getElem?_map] at hi
  cases e : ns[i]? with
  | none =>
    rw [e] at hi
    cases hi
  | some z =>
    rw [e] at hi
    exact ⟨z, rfl, (Option.some.inj hi).symm⟩
theorem ok_are_within (d : DF K mg "are_within" s_are_within ["numbers", "least", "most"]) : Cal P w K mg base 1 "are_within" (sp_are_within K) := by
  refine d.cal sc_are_within (fun vs H Q E h => ?_) (fun f cdv A outer s H vs Q E hr h => ⟨_, (pss_cons (ps_for PassesOwn.never rfl (pi_list (pv 0)) (pg_name (i := 3) sc_are_within.nd rfl (Or.inl rfl)) (pss_one (ps_if (PW.pt (pw_or (pt_cmpR op_lt (pv 3) (pv 1) (nomark _)) (pw_or1 (pt_cmpR op_gt (pv 3) (pv 2) (nomark _))))) (pss_one (ps_ret pe_bl)) pss_nil)))
      (pss_one (ps_ret pe_bl))), ?_⟩)
  · obtain ⟨_, _, _, _, rfl, _⟩ := h
    rfl
  · obtain ⟨a, ns, lo, hi, rfl, hs, q⟩ := h
    walk_at "go"
    refine ⟨_, rfl, a, rfl, ⟨_, hs⟩, for_list (K := K) (a := a) (xs := ns.map V.int) (fun i σ H' => H' = H ∧ (∃ v : Option V, σ = [some (.ref a), some (.int lo), some (.int hi), v]) ∧ (ns.take i).all (inR lo hi) = true)
      ⟨rfl, ⟨none, rfl⟩, by simp⟩ (fun i σ H' _ ⟨e, _, _⟩ => by rw [e]; exact hs) ?_ ?_⟩
    · rintro i y σ H' hi' ⟨rfl, ⟨v, rfl⟩, ha⟩
      obtain ⟨z, hz, rfl⟩ := int_at hi'
      show tIfS _ _ _ _ _ _
      walk_at "go"
      refine ite_d (fun e => ?_) (fun e => ?_)
      · refine ite_t rfl ?_
        walk_at "go"
        have k : inR lo hi z = false := by
          unfold inR
          rw [decide_eq_false (by omega)]
          rfl
        rw [all_not hz k] at q
        exact q
      · walk_at "go"
        refine ite_d (fun e' => ?_) (fun e' => ?_)
        · walk_at "go"
          have k : inR lo hi z = false := by
            unfold inR
            rw [decide_eq_false (p := z ≤ hi) (by omega), Bool.and_false]
          rw [all_not hz k] at q
          exact q
        · walk_at "go"
          have k : inR lo hi z = true := by
            unfold inR
            rw [decide_eq_true (by omega), decide_eq_true (by omega)]
            rfl
          exact ⟨rfl, ⟨_, rfl⟩, all_at hz ha k⟩
    · rintro σ H' ⟨rfl, ⟨v, rfl⟩, ha⟩
      walk_at "go"
      rw [List.length_map, List.take_length] at ha
      rw [ha] at q
      exact q
abbrev s_are_seen : Stmt := top 17
theorem sc_are_seen : FnScope ["numbers"] ["numbers"] (defScope s_are_seen) := ⟨rfl, rfl, rfl, by decide +kernel, rfl, by decide +kernel, by decide +kernel⟩
def sp_are_seen (K : PySem.W.Frag) : Sp := fun vs H Q _ => ∃ (a : Addr) (ns : List Int), vs = [.ref a] ∧ SqL K H a (ns.map V.int) ∧ Q (.bl (Kqy3.all ns)) H
theorem ok_are_seen (d : DF K mg "are_seen" s_are_seen ["numbers"]) (c_are_within : Cal P w K mg base 1 "are_within" (sp_are_within K)) : Cal P w K mg base 2 "are_seen" (sp_are_seen K) := by
  refine d.cal sc_are_seen (fun vs H Q E h => ?_) (fun f cdv A outer s H vs Q E hr h => ⟨_, (pss_one (ps_ret (pe_cal c_are_within (hr.mono (by decide)) rfl (pa_cons (pv 0) (pa_cons pe_int (pa_cons pe_int pa_nil)))))), ?_⟩)
  · obtain ⟨_, _, rfl, _⟩ := h
    rfl
  · obtain ⟨a, ns, rfl, hs, q⟩ := h
    walk_at "go"
    exact ⟨a, ns, 0, 100, rfl, hs, q⟩
abbrev s_is_height : Stmt := top 18
theorem sc_is_height : FnScope ["number"] ["number"] (defScope s_is_height) := ⟨rfl, rfl, rfl, by decide +kernel, rfl, by decide +kernel, by decide +kernel⟩
def sp_is_height : Sp := fun vs H Q _ => ∃ n, vs = [.int n] ∧ ∀ H', Same H H' → Q (.bl (inR 1 1000 n)) H'
theorem ok_is_height (d : DF K mg "is_height" s_is_height ["number"]) (c_are_within : Cal P w K mg base 1 "are_within" (sp_are_within K)) : Cal P w K mg base 2 "is_height" sp_is_height := by
  refine d.cal sc_is_height (fun vs H Q E h => ?_) (fun f cdv A outer s H vs Q E hr h => ⟨_, (pss_one (ps_ret (pe_cal c_are_within (hr.mono (by decide)) rfl (pa_cons (pe_lst (pa_cons (pv 0) pa_nil)) (pa_cons pe_int (pa_cons pe_int pa_nil)))))), ?_⟩)
  · obtain ⟨_, rfl, _⟩ := h
    rfl
  · obtain ⟨n, rfl, q⟩ := h
    walk_at "go"
    refine w_newL (by show 1 ≤ sizeLine; decide) fun p H' e _ hp => ?_
    walk_at "go"
    refine ⟨p, [n], 1, 1000, rfl, SqL.of hp, ?_⟩
    have k := q H' e
    have e' : List.all [n] (inR 1 1000) = inR 1 1000 n := by simp
    rw [e']
    exact k
end
end TW
namespace TW
open PySem PySem.Spec PyProof.Rows L2 Kqy3
/-- all but the object at a is as it was -/
def Keep (a : Addr) (H H' : Hp) : Prop := ∀ b o, H b = some o → b ≠ a → H' b = some o
theorem Same.keep {a : Addr} {H H' : Hp} (e : Same H H') : Keep a H H' := fun b o h _ => e b o h
theorem SqL.same {K : PySem.W.Frag} {H H' : Hp} {a : Addr} {xs : List V} (h : SqL K H a xs) (e : Same H H') : SqL K H' a xs := e.seq h
/-- a new list of whole numbers comes back -/
def RetL (H : Hp) (Q : VK) (ns : List Int) : Prop := ∀ p H', Same H H' → H p = none → H' p = some (.lst (ns.map V.int)) → Q (.ref p) H'
theorem RetL.go {H H1 : Hp} {Q : VK} {ns : List Int} (q : RetL H Q ns) (e : Same H H1) : RetL H1 Q ns := fun p H' e' hp h => q p H' (e.trans e') (e.free hp) h
section
variable {H : Hp} {Q : VK} {K : PySem.W.Frag} {v : V}
theorem w_retL {ns : List Int} {xs : List V} (q : RetL H Q ns) (e : xs = ns.map V.int) (hl : xs.length ≤ sizeLine) : NewL xs H Q := w_newL hl fun p H' e1 hp h => q p H' e1 hp (by rw [h, e])
/-- list(..), tuple(..), len(..) by name -/
def rLst (K : PySem.W.Frag) : List V → Hp → VK → Prop := fun xs H Q => ∃ p ys, xs = [.ref p] ∧ (SqL K H p ys ∨ SqT K H p ys) ∧ ∀ l, H l = none → Q (.ref l) (upd H l (.lst ys))
def rTup (K : PySem.W.Frag) : List V → Hp → VK → Prop := fun xs H Q => ∃ p ys, xs = [.ref p] ∧ ((SqL K H p ys ∧ ∀ l, H l = none → Q (.ref l) (upd H l (.tup ys))) ∨ (SqT K H p ys ∧ Q (.ref p) H))
def rLen (K : PySem.W.Frag) : List V → Hp → VK → Prop := fun xs H Q => ∃ p ys, xs = [.ref p] ∧ (SqL K H p ys ∨ SqT K H p ys) ∧ Q (.int ys.length) H
theorem call_lstR {X : Cx} : CallR X (.type "list") (rLst X.K) := call_list_of
theorem call_tupR {X : Cx} : CallR X (.type "tuple") (rTup X.K) := call_tuple_of
theorem call_lenR {X : Cx} : CallR X (.builtin "len") (rLen X.K) := call_len_seq
theorem w_len {p : Addr} {ys : List V} (h : SqL K H p ys) (q : Q (.int ys.length) H) : rLen K [.ref p] H Q := ⟨p, ys, rfl, .inl h, q⟩
theorem w_tup3 {p : Addr} {a b c : Int} (h : SqL K H p ([a, b, c].map V.int)) (q : ∀ v H', Same H H' → Tri H' v (a, b, c) → Q v H') : rTup K [.ref p] H Q := ⟨p, _, rfl, .inl ⟨h, fun l hl => q _ _ (same_new hl) ⟨l, rfl, upd_same⟩⟩⟩
/-- list() of a pair -/
theorem w_list2 {x : Int × Int} (t : Duo H v x) (q : ∀ p H', Same H H' → H p = none → H' p = some (.lst ([x.1, x.2].map V.int)) → Q (.ref p) H') : rLst K [v] H Q := by
  obtain ⟨a, rfl, h⟩ := t.ex
  exact ⟨a, _, rfl, .inr (SqT.of h), fun l hl => q l _ (same_new hl) hl upd_same⟩
theorem w_cat {a b : Addr} {xs ys : List Int} (h1 : H a = some (.lst (xs.map V.int))) (h2 : H b = some (.lst (ys.map V.int))) (hl : xs.length + ys.length ≤ 1000) (q : ∀ p H', Same H H' → H p = none → H' p = some (.lst ((xs ++ ys).map V.int)) → Q (.ref p) H') :
    rCat (.ref a) (.ref b) H Q := by
  refine ⟨a, b, _, _, rfl, rfl, h1, h2, ?_, fun p hp => q p _ (same_new hp) hp ?_⟩
  · rw [List.length_map, List.length_map]
    exact Nat.le_trans hl (by decide)
  · rw [List.map_append]
    exact upd_same
end
local macro_rules | `(tactic| walk_at "bb") => `(tactic| first | assumption | (apply B.mul <;> walk_at "bb") | (apply B.add <;> walk_at "bb") | (apply B.sub <;> walk_at "bb") | (apply B.neg; walk_at "bb"))
local macro_rules | `(tactic| walk_at "step") => `(tactic| first
  | with_reducible refine w_c ?_
  | ((with_reducible show tVar _ _ _ _); refine w_var (by exact rfl) ?_)
  | with_reducible refine w_op ?_
  | with_reducible refine w_un ?_
  | with_reducible refine w_rI0 ?_
  | with_reducible refine w_rU ?_
  | ((with_reducible show rI CMulW _ _ _ _ _); refine w_rI (by apply B.cmul <;> first | walk_at "bb" | decide) ?_)
  | ((with_reducible show rIxT _ _ _ _ _); refine w_ixT (by assumption) (by exact rfl) ?_)
  | ((with_reducible show rIxL _ _ _ _ _); refine w_ixL (by assumption) (by exact rfl) ?_)
  | with_reducible refine w_eq ?_
  | with_reducible refine w_ne ?_
  | with_reducible refine w_fld ?_
  | ((with_reducible show FldK _ _ _ _ _); refine w_fldk (by assumption) (by assumption) (by assumption) (by first | with_reducible exact pF_horizon | with_reducible exact pF_up | with_reducible exact pF_foot | with_reducible exact pF_head | with_reducible exact pF_height) ?_)
  | with_reducible refine w_cons ?_
  | with_reducible refine w_nil ?_
  | with_reducible refine w_cal ?_
  | with_reducible refine w_met ?_
  | ((with_reducible show MetK _ _ _ _ _ _ _ _); refine w_metk (by assumption) (by walk_at "nometh") ?_)
  | with_reducible refine w_tup ?_
  | with_reducible refine w_lst ?_
  | with_reducible refine w_cb ?_
  | with_reducible refine w_seq ?_
  | with_reducible refine w_asg ?_
  | with_reducible refine w_ret ?_
  | with_reducible refine w_if ?_
  | with_reducible refine w_next ?_
  | with_reducible refine w_test ?_
  | with_reducible refine w_tB ?_
  | with_reducible refine w_tstk ?_
  | with_reducible refine w_and ?_
  | with_reducible refine w_or ?_
  | with_reducible refine w_not ?_
  | with_reducible refine w_andV ?_
  | with_reducible refine w_notV ?_
  | ((with_reducible show V.non = V.non ∧ _); refine ⟨rfl, ?_⟩)
  | with_reducible refine w_notk ?_
  | with_reducible refine w_ifx ?_)
local macro_rules | `(tactic| walk_at "go") => `(tactic| repeat walk_at "step")
local macro_rules | `(tactic| walk_at "nometh") => `(tactic| (refine (lk_past (by decide +kernel)).trans ((lk_past (by decide +kernel)).trans ((lk_past (by decide +kernel)).trans ((lk_past (by decide +kernel)).trans ((lk_past (by decide +kernel)).trans rfl))))))
section
variable {P : Program} {w : World} {K : PySem.W.Frag} {mg : Str → Option Value} {base : Heap} {C : Addr}
/-! tell_place -/
abbrev s_tell_place : Stmt := top 22
theorem sc_tell_place : FnScope ["point"] ["point"] (defScope s_tell_place) := ⟨rfl, rfl, rfl, by decide +kernel, rfl, by decide +kernel, by decide +kernel⟩
def toldP (p : Pt) : List Int := Kqy3Neutral.tell (orElse (place p) (-6))
def sp_tell_place : Sp := fun vs H Q _ => ∃ v p, vs = [v] ∧ Tri H v p ∧ PB 7000 p ∧ RetL H Q (toldP p)
theorem told_none {p : Pt} (h : p.2.2 = 0) : toldP p = [-6] := by
  unfold toldP place
  rw [if_pos h]
  rfl
theorem told_some {p : Pt} (h : p.2.2 ≠ 0) : toldP p = [0] ++ [(TP.low p.1 p.2.2).1, (TP.low p.1 p.2.2).2] ++ [(TP.low p.2.1 p.2.2).1, (TP.low p.2.1 p.2.2).2] := by
  unfold toldP place
  rw [if_neg h, TP.frac_low h, TP.frac_low h]
  rfl
theorem ok_tell_place (T : Txt K mg C) (d : DF K mg "tell_place" s_tell_place ["point"]) (c_lowest : Cal P w K mg base 2 "lowest" sp_lowest) : Cal P w K mg base 3 "tell_place" sp_tell_place := by
  refine d.cal sc_tell_place (fun vs H Q E h => ?_) (fun f cdv A outer s H vs Q E hr h => ⟨_, (pss_cons (ps_if (pt_cmpR op_eq (pe_ix ix_tup (pv 0) pe_int (fun _ _ => rfl)) pe_int (nomark _)) (pss_one (ps_ret (pe_lst (pa_cons (pe_const T.k_BEYOND_ALL rfl) pa_nil)))) pss_nil)
      (pss_one (ps_ret (pe_op op_cat (pe_op op_cat (pe_lst (pa_cons pe_int pa_nil)) (pe_callTy call_lstR (by rfl) T.b_list (by decide +kernel) (pa_cons (pe_cal c_lowest (hr.mono (by decide)) rfl (pa_cons (pe_ix ix_tup (pv 0) pe_int (fun _ _ => rfl)) (pa_cons (pe_ix ix_tup (pv 0) pe_int (fun _ _ => rfl)) pa_nil))) pa_nil))) (pe_callTy call_lstR (by rfl) T.b_list (by decide +kernel) (pa_cons (pe_cal c_lowest (hr.mono (by decide)) rfl (pa_cons (pe_ix ix_tup (pv 0) pe_int (fun _ _ => rfl)) (pa_cons (pe_ix ix_tup (pv 0) pe_int (fun _ _ => rfl)) pa_nil))) pa_nil)))))), ?_⟩)
  · obtain ⟨_, _, rfl, _⟩ := h
    rfl
  · obtain ⟨v, p, rfl, tp, bp, q⟩ := h
    obtain ⟨a, rfl, hp⟩ := tp.ex
    walk_at "go"
    refine ite_d (fun e => ?_) (fun e => ?_)
    · walk_at "go"
      rw [told_none e] at q
      exact w_retL q rfl (by show 1 ≤ sizeLine; decide)
    · rw [told_some e] at q
      walk_at "go"
      refine w_newL (by show 1 ≤ sizeLine; decide) fun a1 H1 e1 n1 h1 => ?_
      replace hp := e1 _ _ hp
      walk_at "go"
      refine ⟨_, _, rfl, e, bp.c.mono (by decide), fun v2 H2 e2 t2 => ?_⟩
      walk_at "go"
      refine w_list2 t2 fun a3 H3 e3 n3 h3 => ?_
      refine w_cat (xs := [0]) ((e2.trans e3) _ _ h1) h3 (by show 3 ≤ 1000; decide) fun a4 H4 e4 n4 h4 => ?_
      replace hp := ((e2.trans e3).trans e4) _ _ hp
      walk_at "go"
      refine ⟨_, _, rfl, e, bp.c.mono (by decide), fun v5 H5 e5 t5 => ?_⟩
      walk_at "go"
      refine w_list2 t5 fun a6 H6 e6 n6 h6 => ?_
      exact w_cat ((e5.trans e6) _ _ h4) h6 (by show 5 ≤ 1000; decide) (q.go (e1.trans ((e2.trans e3).trans (e4.trans (e5.trans e6)))))
end
end TW
namespace TW
open PySem PySem.Spec PyProof.Rows L2 Kqy3
/-! ### comprehensions of one name, no test -/
section
variable {σ : L2.St} {H H1 : Hp} {Q : VK} {K : PySem.W.Frag} {te : TE}
theorem w_lc {wi : TI} {g : TG} {tt : TT} {vs : List Nat} (h : wi σ H fun J H1 => tLc (fun _ _ R => R J H1) g tt te vs σ H Q) : tLc wi g tt te vs σ H Q := h
theorem w_rng3 {ta : TA} {R : It → Hp → Prop} (h : ta σ H fun vs H1 => iRng3 (fun _ _ QA => QA vs H1) σ H R) : iRng3 ta σ H R := h
theorem w_rng3k {i j c : Int} {n : Nat} {R : It → Hp → Prop} (hr : RgC i j c n) (h : R (Itc i c n) H1) : iRng3 (fun _ _ QA => QA [.int i, .int j, .int c] H1) σ H R := ⟨i, j, c, n, rfl, hr, h⟩
theorem w_iList {tl : TE} {R : It → Hp → Prop} (h : tl σ H fun x H1 => iList K (fun _ _ QA => QA x H1) σ H R) : iList K tl σ H R := h
theorem w_iListk {a : Addr} {xs : List V} {R : It → Hp → Prop} (hs : SqL K H1 a xs) (h : R (Itl K a) H1) : iList K (fun _ _ QA => QA (.ref a) H1) σ H R := ⟨a, rfl, ⟨xs, hs⟩, h⟩
/-- by what holds ahead of turn i -/
theorem lc_gen {J : It} {k : Nat} (h : ∀ D, H1 D = none → ∃ (n : Nat) (Pv : Nat → Hp → Prop), Pv 0 (upd H1 D (.lst [])) ∧ (∀ G, Pv n G → J.stop n G) ∧ (∀ i G, i < n → Pv i G → J.go i G) ∧
      (∀ i G x G', i < n → Pv i G → J.yld i G x G' → te (σ.set k (some x)) G' fun y G2 => ∃ acc, G2 D = some (.lst acc) ∧ acc.length < sizeLine ∧ Pv (i + 1) (upd G2 D (.lst (acc ++ [y])))) ∧ ∀ G, Pv n G → Q (.ref D) G) :
    tLc (fun _ _ R => R J H1) (gName k) tYes te [k] σ H Q := by
  intro D hD
  obtain ⟨n, Pv, h0, hst, hgo, hs, hd⟩ := h D hD
  refine ⟨fun i m G => i + m = n ∧ Pv i G, ⟨n, Nat.zero_add n, h0⟩, fun i m G w => ?_⟩
  obtain ⟨hm, p⟩ := w
  cases m with
  | zero =>
    have hi : i = n := hm
    subst hi
    exact .inl ⟨hst G p, hd G p⟩
  | succ m =>
    have hi : i < n := by omega
    refine .inr ⟨hgo i G hi p, fun G' => Pv (i + 1) G', fun G' p' => ⟨m, Nat.lt_succ_self m, by omega, p'⟩, fun x G' y => ?_⟩
    have e1 : wipe σ [k] = σ.set k none := rfl
    have e2 : (wipe σ [k]).set k (some x) = σ.set k (some x) := by rw [e1, List.set_set]
    have e3 : wipe (σ.set k (some x)) [k] = wipe σ [k] := by
      show (σ.set k (some x)).set k none = σ.set k none
      rw [List.set_set]
    show wipe ((wipe σ [k]).set k (some x)) [k] = wipe σ [k] ∧ _
    rw [e2]
    exact ⟨e3, hs i G x G' hi p y⟩
end
/-- xs[i] within a comprehension -/
theorem ix_listK {X : Cx} {K : PySem.W.Frag} (e : X.K = K) : IxR X (rIxL K) := by
  subst e
  exact ix_list
/-! ### points -/
def ptsOf : List Int → List Pt
  | a :: b :: r => pt a b :: ptsOf r
  | _ => []
theorem ptsOf_at : ∀ (m : Nat) (ns : List Int), ns.length = 2 * m → (ptsOf ns).length = m ∧ ∀ i, i < m → ∃ a b, ns[2 * i]? = some a ∧ ns[2 * i + 1]? = some b ∧ (ptsOf ns)[i]? = some (pt a b)
  | 0, [], _ => ⟨rfl, fun i h => absurd h (Nat.not_lt_zero i)⟩
  | 0, _ :: _, h => by simp at h
  | m + 1, [], h => by simp at h
  | m + 1, [_], h => by
    simp only [List.length_cons, List.length_nil] at h
    omega
  | m + 1, a :: b :: r, h => by
    obtain ⟨h1, h2⟩ := ptsOf_at m r (by simp only [List.length_cons] at h; omega)
    refine ⟨by show (ptsOf r).length + 1 = m + 1; rw [h1], fun i hi => ?_⟩
    cases i with
    | zero => exact ⟨a, b, rfl, rfl, rfl⟩
    | succ i =>
      obtain ⟨x, y, e1, e2, e3⟩ := h2 i (by omega)
      refine ⟨x, y, ?_, ?_, ?_⟩
      · have e : 2 * (i + 1) = 2 * i + 1 + 1 := by omega
        rw [e, List.getElem?_cons_succ, List.getElem?_cons_succ]
        exact e1
      · have e : 2 * (i + 1) + 1 = 2 * i + 1 + 1 + 1 := by omega
        rw [e, List.getElem?_cons_succ, List.getElem?_cons_succ]
        exact e2
      · show (pt a b :: ptsOf r)[i + 1]? = _
        rw [List.getElem?_cons_succ]
        exact e3
def Tris (H : Hp) : List V → List Pt → Prop
  | [], [] => True
  | v :: vs, p :: ps => Tri H v p ∧ Tris H vs ps
  | _, _ => False
theorem Tris.map {H H' : Hp} (f : ∀ v p, Tri H v p → Tri H' v p) : ∀ {vs : List V} {ps : List Pt}, Tris H vs ps → Tris H' vs ps
  | [], [], _ => trivial
  | _ :: _, _ :: _, ⟨h, r⟩ => ⟨f _ _ h, r.map f⟩
  | [], _ :: _, h => h.elim
  | _ :: _, [], h => h.elim
theorem Tris.snoc {H : Hp} {v : V} {p : Pt} (t : Tri H v p) : ∀ {vs : List V} {ps : List Pt}, Tris H vs ps → Tris H (vs ++ [v]) (ps ++ [p])
  | [], [], _ => ⟨t, trivial⟩
  | _ :: _, _ :: _, ⟨h, r⟩ => ⟨h, r.snoc t⟩
  | [], _ :: _, h => h.elim
  | _ :: _, [], h => h.elim
theorem tris_cons {H : Hp} {us : List V} {p : Pt} {ps : List Pt} (h : Tris H us (p :: ps)) : ∃ v vs, us = v :: vs ∧ Tri H v p ∧ Tris H vs ps := by
  cases us with
  | nil => exact h.elim
  | cons v vs => exact ⟨v, vs, rfl, h.1, h.2⟩
theorem tris_nil {H : Hp} {us : List V} (h : Tris H us []) : us = [] := by
  cases us with
  | nil => rfl
  | cons v vs => exact h.elim
section
variable {H : Hp} {us : List V} {a b c d e f g h : Int}
theorem pts1 (t : Tris H us (ptsOf [a, b])) : ∃ v, us = [v] ∧ Tri H v (pt a b) := by
  obtain ⟨v, _, rfl, t1, t⟩ := tris_cons t
  obtain rfl := tris_nil t
  exact ⟨v, rfl, t1⟩
theorem pts2 (t : Tris H us (ptsOf [a, b, c, d])) : ∃ v w, us = [v, w] ∧ Tri H v (pt a b) ∧ Tri H w (pt c d) := by
  obtain ⟨v, _, rfl, t1, t⟩ := tris_cons t
  obtain ⟨w, rfl, t2⟩ := pts1 t
  exact ⟨v, w, rfl, t1, t2⟩
theorem pts3 (t : Tris H us (ptsOf [a, b, c, d, e, f])) : ∃ v w x, us = [v, w, x] ∧ Tri H v (pt a b) ∧ Tri H w (pt c d) ∧ Tri H x (pt e f) := by
  obtain ⟨v, _, rfl, t1, t⟩ := tris_cons t
  obtain ⟨w, x, rfl, t2⟩ := pts2 t
  exact ⟨v, w, x, rfl, t1, t2⟩
theorem pts4 (t : Tris H us (ptsOf [a, b, c, d, e, f, g, h])) : ∃ v w x y, us = [v, w, x, y] ∧ Tri H v (pt a b) ∧ Tri H w (pt c d) ∧ Tri H x (pt e f) ∧ Tri H y (pt g h) := by
  obtain ⟨v, _, rfl, t1, t⟩ := tris_cons t
  obtain ⟨w, x, y, rfl, t2⟩ := pts3 t
  exact ⟨v, w, x, y, rfl, t1, t2⟩
end
theorem Tri.updL {H : Hp} {v : V} {p : Pt} {a : Addr} {xs : List V} {o : HO} (t : Tri H v p) (h : H a = some (.lst xs)) : Tri (upd H a o) v p := by
  obtain ⟨b, rfl, hb⟩ := t.ex
  refine ⟨b, rfl, ?_⟩
  rw [upd_ne (ne_of hb h (by intro z; cases z))]
  exact hb
theorem same_upd {H H' : Hp} {D : Addr} {o : HO} (e : Same H H') (n : H D = none) : Same H (upd H' D o) := fun a u h => by
  rw [upd_ne (ne_of_none h n)]
  exact e a u h
theorem rg_two {m : Nat} (h : m ≤ 4) : RgC 0 ((2 * m : Nat) : Int) 2 m := by
  have k : m = 0 ∨ m = 1 ∨ m = 2 ∨ m = 3 ∨ m = 4 := by omega
  rcases k with rfl | rfl | rfl | rfl | rfl <;> exact ⟨by decide, by decide, by decide, by decide⟩
theorem at_nat {ns : List Int} {j : Nat} {x i : Int} (h : ns[j]? = some x) (e : i = (j : Int)) : atI (ns.map V.int) i = some (.int x) := by
  subst e
  refine atI_nat ?_
  rw [List.getElem?_map, h]
  rfl
local macro_rules | `(tactic| walk_at "bb") => `(tactic| first | assumption | (apply B.mul <;> walk_at "bb") | (apply B.add <;> walk_at "bb") | (apply B.sub <;> walk_at "bb") | (apply B.neg; walk_at "bb"))
local macro_rules | `(tactic| walk_at "step") => `(tactic| first
  | with_reducible refine w_c ?_
  | ((with_reducible show tVar _ _ _ _); refine w_var (by exact rfl) ?_)
  | with_reducible refine w_op ?_
  | with_reducible refine w_un ?_
  | with_reducible refine w_rI0 ?_
  | with_reducible refine w_rU ?_
  | ((with_reducible show rI CMulW _ _ _ _ _); refine w_rI (by apply B.cmul <;> first | walk_at "bb" | decide) ?_)
  | ((with_reducible show rIxT _ _ _ _ _); refine w_ixT (by assumption) (by exact rfl) ?_)
  | ((with_reducible show rIxL _ _ _ _ _); refine w_ixL (by assumption) (by exact rfl) ?_)
  | with_reducible refine w_eq ?_
  | with_reducible refine w_ne ?_
  | with_reducible refine w_fld ?_
  | ((with_reducible show FldK _ _ _ _ _); refine w_fldk (by assumption) (by assumption) (by assumption) (by first | with_reducible exact pF_horizon | with_reducible exact pF_up | with_reducible exact pF_foot | with_reducible exact pF_head | with_reducible exact pF_height) ?_)
  | with_reducible refine w_cons ?_
  | with_reducible refine w_nil ?_
  | with_reducible refine w_cal ?_
  | with_reducible refine w_met ?_
  | ((with_reducible show MetK _ _ _ _ _ _ _ _); refine w_metk (by assumption) (by walk_at "nometh") ?_)
  | with_reducible refine w_tup ?_
  | with_reducible refine w_lst ?_
  | with_reducible refine w_cb ?_
  | with_reducible refine w_seq ?_
  | with_reducible refine w_asg ?_
  | with_reducible refine w_ret ?_
  | with_reducible refine w_if ?_
  | with_reducible refine w_next ?_
  | with_reducible refine w_test ?_
  | with_reducible refine w_tB ?_
  | with_reducible refine w_tstk ?_
  | with_reducible refine w_and ?_
  | with_reducible refine w_or ?_
  | with_reducible refine w_not ?_
  | with_reducible refine w_andV ?_
  | with_reducible refine w_notV ?_
  | ((with_reducible show V.non = V.non ∧ _); refine ⟨rfl, ?_⟩)
  | with_reducible refine w_notk ?_
  | with_reducible refine w_ifx ?_)
local macro_rules | `(tactic| walk_at "go") => `(tactic| repeat walk_at "step")
local macro_rules | `(tactic| walk_at "nometh") => `(tactic| (refine (lk_past (by decide +kernel)).trans ((lk_past (by decide +kernel)).trans ((lk_past (by decide +kernel)).trans ((lk_past (by decide +kernel)).trans ((lk_past (by decide +kernel)).trans rfl))))))
section
variable {P : Program} {w : World} {K : PySem.W.Frag} {mg : Str → Option Value} {base : Heap} {C : Addr}
abbrev s_points_of : Stmt := top 19
abbrev n_points_of : List Str := ["numbers", "place"]
theorem sc_points_of : FnScope ["numbers", "place"] ["numbers"] (defScope s_points_of) := ⟨rfl, rfl, rfl, by decide +kernel, rfl, by decide +kernel, by decide +kernel⟩
def sp_points_of (K : PySem.W.Frag) : Sp := fun vs H Q _ => ∃ (a : Addr) (ns : List Int) (m : Nat), vs = [.ref a] ∧ SqL K H a (ns.map V.int) ∧ ns.length = 2 * m ∧ m ≤ 4 ∧ ∀ p H' us, Same H H' → H p = none → H' p = some (.lst us) → Tris H' us (ptsOf ns) → Q (.ref p) H'
theorem ok_points_of (T : Txt K mg C) (d : DF K mg "points_of" s_points_of ["numbers"]) : Cal P w K mg base 1 "points_of" (sp_points_of K) := by
  refine d.cal sc_points_of (fun vs H Q E h => ?_) (fun f cdv A outer s H vs Q E hr h => ⟨_, (pss_one (ps_ret (pe_lc (own := [("place", 1)]) (g := gName 1) (tt := tYes) rfl sc_points_of.nd (pi_range3 rfl T.b_range (pa_cons pe_int (pa_cons (pe_callB call_lenR (by rfl) T.b_len (by decide +kernel) (pa_cons (pv 0) pa_nil)) (pa_cons pe_int pa_nil)))) (blkOk_by (own := [("place", 1)]) (N := n_points_of) (sc := defScope s_points_of) (by decide +kernel)) (fun _ _ _ _ _ => pg_name (i := 1) sc_points_of.nd rfl (Or.inl rfl)) (fun _ _ _ _ _ => pts_nil) (fun _ _ _ _ _ => (pe_tup (pa_cons (pe_ix (ix_listK (K := K) rfl) (pv 0) (pv 1) (fun _ _ => rfl)) (pa_cons (pe_ix (ix_listK (K := K) rfl) (pv 0) (pe_op op_add (pv 1) pe_int) (fun _ _ => rfl)) (pa_cons pe_int pa_nil)))))))), ?_⟩)
  · obtain ⟨_, _, _, rfl, _⟩ := h
    rfl
  · obtain ⟨a, ns, m, rfl, sq, hm, hm4, q⟩ := h
    walk_at "go"
    refine w_lc (w_rng3 ?_)
    walk_at "go"
    refine w_len sq ?_
    walk_at "go"
    rw [List.length_map, hm]
    refine w_rng3k (rg_two hm4) (lc_gen fun D hD => ?_)
    · obtain ⟨hl, hat⟩ := ptsOf_at m ns hm
      refine ⟨m, fun i H' => Same H H' ∧ ∃ acc, H' D = some (.lst acc) ∧ acc.length = i ∧ Tris H' acc ((ptsOf ns).take i), ⟨same_upd (Same.refl H) hD, [], upd_same, rfl, ?_⟩, fun _ _ => Nat.le_refl m, fun i _ hi _ => hi, ?_, ?_⟩
      · rw [List.take_zero]
        trivial
      · rintro i H' x H'' hi ⟨e, acc, hacc, hlen, ht⟩ ⟨rfl, rfl⟩
        obtain ⟨u, v, e1, e2, e3⟩ := hat i hi
        have sq' := e.seq sq
        walk_at "go"
        refine w_ixL sq' (at_nat e1 (by omega)) ?_
        walk_at "go"
        refine w_ixL sq' (at_nat e2 (by omega)) ?_
        walk_at "go"
        refine w_newT (by show 3 ≤ sizeLine; decide) fun p H4 e4 n4 h4 => ⟨acc, e4 _ _ hacc, ?_, same_upd (e.trans e4) hD, acc ++ [.ref p], upd_same, by rw [List.length_append, hlen]; rfl, ?_⟩
        · rw [hlen]
          exact Nat.lt_of_lt_of_le (Nat.lt_of_lt_of_le hi hm4) (by decide)
        · rw [List.take_add_one, e3]
          have t4 : Tri H4 (.ref p) (pt u v) := ⟨p, rfl, h4⟩
          exact Tris.map (fun v p t => Tri.updL t (e4 _ _ hacc)) (Tris.snoc t4 (ht.map fun v p t => t.same e4))
      · rintro H' ⟨e, acc, hacc, hlen, ht⟩
        rw [← hl, List.take_length] at ht
        exact q D H' acc e hD hacc ht
/-! one_if, one_or_two, excess -/
abbrev s_one_if : Stmt := top 20
abbrev n_one_if : List Str := ["truth"]
theorem sc_one_if : FnScope ["truth"] ["truth"] (defScope s_one_if) := ⟨rfl, rfl, rfl, by decide +kernel, rfl, by decide +kernel, by decide +kernel⟩
def sp_one_if : Sp := fun vs H Q _ => ∃ b : Bool, vs = [.bl b] ∧ Q (.int (if b = true then 1 else 0)) H
theorem ok_one_if (d : DF K mg "one_if" s_one_if ["truth"]) : Cal P w K mg base 1 "one_if" sp_one_if := by
  refine d.cal sc_one_if (fun vs H Q E h => ?_) (fun f cdv A outer s H vs Q E hr h => ⟨_, (pss_one (ps_ret (pe_ifExp (pt_val (pv 0)) pe_int pe_int))), ?_⟩)
  · obtain ⟨_, rfl, _⟩ := h
    rfl
  · obtain ⟨b, rfl, q⟩ := h
    walk_at "go"
    refine ite_b (fun e => ?_) (fun e => ?_)
    · walk_at "go"
      rw [if_pos e] at q
      exact q
    · walk_at "go"
      rw [if_neg (by rw [e]; decide)] at q
      exact q
abbrev s_one_or_two : Stmt := top 21
abbrev n_one_or_two : List Str := ["balance"]
theorem sc_one_or_two : FnScope ["balance"] ["balance"] (defScope s_one_or_two) := ⟨rfl, rfl, rfl, by decide +kernel, rfl, by decide +kernel, by decide +kernel⟩
def sp_one_or_two : Sp := fun vs H Q _ => ∃ e : Int, vs = [.int e] ∧ Q (.int (TP.one2 e)) H
theorem ok_one_or_two (d : DF K mg "one_or_two" s_one_or_two ["balance"]) : Cal P w K mg base 1 "one_or_two" sp_one_or_two := by
  refine d.cal sc_one_or_two (fun vs H Q E h => ?_) (fun f cdv A outer s H vs Q E hr h => ⟨_, (pss_cons (ps_if (pt_cmpR op_eq (pv 0) pe_int (nomark _)) (pss_one (ps_ret pe_int)) pss_nil)
      (pss_one (ps_ret (pe_ifExp (pt_cmpR op_gt (pv 0) pe_int (nomark _)) pe_int pe_int)))), ?_⟩)
  · obtain ⟨_, rfl, _⟩ := h
    rfl
  · obtain ⟨e, rfl, q⟩ := h
    unfold TP.one2 at q
    walk_at "go"
    refine ite_d (fun k => ?_) (fun k => ?_)
    · walk_at "go"
      rw [if_pos k] at q
      exact q
    · rw [if_neg k] at q
      walk_at "go"
      refine ite_d (fun k => ?_) (fun k => ?_)
      · walk_at "go"
        rw [if_pos k] at q
        exact q
      · walk_at "go"
        rw [if_neg k] at q
        exact q
abbrev s_excess : Stmt := top 3
abbrev n_excess : List Str := ["first", "second"]
theorem sc_excess : FnScope ["first", "second"] ["first", "second"] (defScope s_excess) := ⟨rfl, rfl, rfl, by decide +kernel, rfl, by decide +kernel, by decide +kernel⟩
def sp_excess : Sp := fun vs H Q _ => ∃ u v x y, vs = [u, v] ∧ Duo H u x ∧ Duo H v y ∧ B 300 x.1 ∧ B 300 x.2 ∧ B 300 y.1 ∧ B 300 y.2 ∧ Q (.int (x.1 * y.2 - y.1 * x.2)) H
theorem ok_excess (d : DF K mg "excess" s_excess ["first", "second"]) : Cal P w K mg base 1 "excess" sp_excess := by
  refine d.cal sc_excess (fun vs H Q E h => ?_) (fun f cdv A outer s H vs Q E hr h => ⟨_, (pss_one (ps_ret (pe_op op_sub (pe_op op_mulW (pe_ix ix_tup (pv 0) pe_int (fun _ _ => rfl)) (pe_ix ix_tup (pv 1) pe_int (fun _ _ => rfl))) (pe_op op_mulW (pe_ix ix_tup (pv 1) pe_int (fun _ _ => rfl)) (pe_ix ix_tup (pv 0) pe_int (fun _ _ => rfl)))))), ?_⟩)
  · obtain ⟨_, _, _, _, rfl, _⟩ := h
    rfl
  · obtain ⟨u, v, x, y, rfl, tx, ty, b1, b2, b3, b4, q⟩ := h
    obtain ⟨a, rfl, ha⟩ := tx.ex
    obtain ⟨b, rfl, hb⟩ := ty.ex
    walk_at "go"
    exact q
/-! side, meet, post_height_by -/
abbrev s_side : Stmt := inClass (top 7) 9
abbrev n_side : List Str := ["self", "point"]
theorem sc_side : FnScope ["self", "point"] ["self", "point"] (defScope s_side) := ⟨rfl, rfl, rfl, by decide +kernel, rfl, by decide +kernel, by decide +kernel⟩
def sp_side (C : Addr) : Sp := fun vs H Q _ => ∃ x v s f, vs = [x, v] ∧ ScAt C H x s ∧ SB s ∧ Tri H v f ∧ PB 17 f ∧ Q (.int (dot s.l f * dot s.l s.foot)) H
theorem ok_side (T : Txt K mg C) (d : MF K C "side" "Picture.side" s_side ["self", "point"]) (c_makes : Cal P w K mg base 1 "makes" sp_makes) : MCal P w K mg base 2 C "side" (sp_side C) := by
  refine d.cal sc_side (fun vs H Q E h => ?_) (fun f cdv A outer s H vs Q E hr h => ⟨_, (pss_one (ps_ret (pe_op op_mulW (pe_cal c_makes (hr.mono (by decide)) rfl (pa_cons (pe_fld (pv 0) rfl) (pa_cons (pv 1) pa_nil))) (pe_cal c_makes (hr.mono (by decide)) rfl (pa_cons (pe_fld (pv 0) rfl) (pa_cons (pe_fld (pv 0) rfl) pa_nil)))))), ?_⟩)
  · obtain ⟨_, _, _, _, rfl, _⟩ := h
    rfl
  · obtain ⟨x, v, s, f, rfl, sa, sb, tf, bf, q⟩ := h
    obtain ⟨a, dx, vh, vu, vf, vt, rfl, h1, h2, h3, h4, h5⟩ := sa.ex
    obtain ⟨cl, a1, a2, a3, a4, a5⟩ := T.at_
    have b1 := B_dot sb.l bf
    have b2 := B_dot sb.l sb.f
    walk_at "go"
    refine ⟨_, _, _, _, rfl, h2, tf, sb.l.up, bf.up, ?_⟩
    walk_at "go"
    refine ⟨_, _, _, _, rfl, h2, h4, sb.l.up, sb.f.up, ?_⟩
    walk_at "go"
    exact q
abbrev s_meet : Stmt := inClass (top 7) 10
abbrev n_meet : List Str := ["self", "first", "second"]
theorem sc_meet : FnScope ["self", "first", "second"] ["self", "first", "second"] (defScope s_meet) := ⟨rfl, rfl, rfl, by decide +kernel, rfl, by decide +kernel, by decide +kernel⟩
def sp_meet (C : Addr) : Sp := fun vs H Q _ => ∃ x u v st l f t, vs = [x, u, v] ∧ PicAt C H x st ∧ st.l = some l ∧ PB 17 l ∧ Tri H u f ∧ PB 17 f ∧ Tri H v t ∧ PB 17 t ∧ ∀ y H', Same H H' → Tri H' y (cross (cross f t) l) → Q y H'
theorem ok_meet (T : Txt K mg C) (d : MF K C "meet" "Picture.meet" s_meet ["self", "first", "second"]) (c_cross : Cal P w K mg base 1 "cross" sp_cross) : MCal P w K mg base 2 C "meet" (sp_meet C) := by
  refine d.cal sc_meet (fun vs H Q E h => ?_) (fun f cdv A outer s H vs Q E hr h => ⟨_, (pss_one (ps_ret (pe_cal c_cross (hr.mono (by decide)) rfl (pa_cons (pe_cal c_cross (hr.mono (by decide)) rfl (pa_cons (pv 1) (pa_cons (pv 2) pa_nil))) (pa_cons (pe_fld (pv 0) rfl) pa_nil))))), ?_⟩)
  · obtain ⟨_, _, _, _, _, _, _, rfl, _⟩ := h
    rfl
  · obtain ⟨x, u, v, st, l, f, t, rfl, pa, hl, bl, tf, bf, tt, bt, q⟩ := h
    obtain ⟨a, dx, vh, vu, vf, vt, vn, rfl, h1, h2, h3, h4⟩ := pa.ex
    obtain ⟨cl, a1, a2, a3, a4, a5⟩ := T.at_
    rw [hl] at h2
    have h2 : Tri H vh l := h2
    walk_at "go"
    refine ⟨_, _, _, _, rfl, tf, tt, bf.up, bt.up, fun y H1 e1 ty => ?_⟩
    replace h1 := e1 _ _ h1
    replace h2 := h2.same e1
    walk_at "go"
    exact ⟨_, _, _, _, rfl, ty, h2, (PB_cross bf bt).mono (by decide), bl.up, fun z H2 e2 tz => q _ _ (e1.trans e2) tz⟩
theorem B_low {a b : Int} {n : Nat} (hb : b ≠ 0) (h1 : B n a) (h2 : B n b) : B n (TP.low a b).1 ∧ B n (TP.low a b).2 := ⟨Nat.lt_of_le_of_lt (TP.low_le hb).1 h1, Nat.lt_of_le_of_lt (TP.low_le hb).2 h2⟩
def lowM (s : Scene) (f t : Pt) : Int × Int := TP.low (TP.measP s f t).1 (TP.measP s f t).2
theorem B_lowM {s : Scene} {f t : Pt} (sb : SB s) (hf : PB 17 f) (ht : PB 17 t) (nz : (TP.measP s f t).2 ≠ 0) : B 200 (lowM s f t).1 ∧ B 200 (lowM s f t).2 := B_low nz (B_meas sb hf ht).1 (B_meas sb hf ht).2
abbrev s_post_height_by : Stmt := inClass (top 7) 8
abbrev n_post_height_by : List Str := ["self", "foot", "head", "height", "own_height"]
theorem sc_post_height_by : FnScope ["self", "foot", "head", "height", "own_height"] ["self", "foot", "head", "height"] (defScope s_post_height_by) := ⟨rfl, rfl, rfl, by decide +kernel, rfl, by decide +kernel, by decide +kernel⟩
def sp_post_height_by (C : Addr) : Sp := fun vs H Q _ => ∃ x v u s f t n, vs = [x, v, u, .int n] ∧ ScAt C H x s ∧ SB s ∧ Tri H v f ∧ PB 17 f ∧ Tri H u t ∧ PB 17 t ∧ B 17 n ∧ (TP.measP s f t).2 ≠ 0 ∧ (lowM s f t).1 ≠ 0 ∧ ∀ y H', Same H H' → Duo H' y (TP.low (n * s.high * (lowM s f t).2) (lowM s f t).1) → Q y H'
theorem ok_post_height_by (T : Txt K mg C) (d : MF K C "post_height_by" "Picture.post_height_by" s_post_height_by ["self", "foot", "head", "height"]) (c_lowest : Cal P w K mg base 2 "lowest" sp_lowest) (c_measure : MCal P w K mg base 3 C "measure" (sp_measure C)) : MCal P w K mg base 4 C "post_height_by" (sp_post_height_by C) := by
  refine d.cal sc_post_height_by (fun vs H Q E h => ?_) (fun f cdv A outer s H vs Q E hr h => ⟨_, (pss_cons (ps_set (i := 4) sc_post_height_by.nd rfl (Or.inl rfl) (pe_met c_measure T.cl (hr.mono (by decide)) (pv 0) (pa_cons (pv 1) (pa_cons (pv 2) pa_nil))))
      (pss_one (ps_ret (pe_cal c_lowest (hr.mono (by decide)) rfl (pa_cons (pe_op op_mulW (pe_op op_mulW (pv 3) (pe_fld (pv 0) rfl)) (pe_ix ix_tup (pv 4) pe_int (fun _ _ => rfl))) (pa_cons (pe_ix ix_tup (pv 4) pe_int (fun _ _ => rfl)) pa_nil)))))), ?_⟩)
  · obtain ⟨_, _, _, _, _, _, _, rfl, _⟩ := h
    rfl
  · obtain ⟨x, v, u, s, f, t, n, rfl, sa, sb, tf, bf, tt, bt, bn, nz, ln, q⟩ := h
    obtain ⟨a, dx, vh, vu, vf, vt, rfl, h1, h2, h3, h4, h5⟩ := sa.ex
    obtain ⟨cl, a1, a2, a3, a4, a5⟩ := T.at_
    obtain ⟨b1, b2⟩ := B_lowM sb bf bt nz
    have b3 := sb.n
    walk_at "go"
    refine ⟨_, _, _, s, f, t, rfl, sa, sb, tf, bf, tt, bt, nz, fun y H1 e1 ty => ?_⟩
    replace h1 := e1 _ _ h1
    have ty : Duo H1 y (lowM s f t) := ty
    obtain ⟨ay, rfl, hy⟩ := ty.ex
    walk_at "go"
    exact ⟨_, _, rfl, ln, b1.mono (by decide), fun z H2 e2 tz => q _ _ (e1.trans e2) tz⟩
end
end TW
namespace TW
open PySem PySem.Spec PyProof.Rows L2 Kqy3
/-! ### the specification's one step, and what it asks -/
def stepS (st : State) (n : Int) (ns : List Int) : Option State × List Int := Kqy3Neutral.step (some st) [n :: ns]
def sp_ans (C : Addr) (n : Int) (k : Nat) : Sp := fun vs H Q _ => ∃ (a b : Addr) (st : State) (ns : List Int), vs = [.ref a, .ref b] ∧ PicAt C H (.ref a) st ∧ StB st ∧ H b = some (.lst (ns.map V.int)) ∧ ns.length = k ∧
  ∀ p H' st', (stepS st n ns).1 = some st' → Keep a H H' → H p = none → PicAt C H' (.ref a) st' → StB st' → H' p = some (.lst ((stepS st n ns).2.map V.int)) → Q (.ref p) H'
theorem ans_pure {C a : Addr} {H : Hp} {Q : VK} {st : State} {n : Int} {ns ans : List Int} (pa : PicAt C H (.ref a) st) (sb : StB st) (e : stepS st n ns = (some st, ans))
    (q : ∀ p H' st', (stepS st n ns).1 = some st' → Keep a H H' → H p = none → PicAt C H' (.ref a) st' → StB st' → H' p = some (.lst ((stepS st n ns).2.map V.int)) → Q (.ref p) H') : RetL H Q ans := by
  rw [e] at q
  exact fun p H' e1 hp h => q p H' st rfl (Same.keep e1) hp (pa.same e1) sb h
theorem scene_some {st : State} {z : Scene} (h : sceneOf st = some z) : st = stOf z ∧ okScene z = true := by
  obtain ⟨ol, ou, op⟩ := st
  unfold sceneOf at h
  cases ol with
  | none => cases h
  | some l =>
    cases ou with
    | none => cases h
    | some u =>
      cases op with
      | none => cases h
      | some p =>
        obtain ⟨f, t, n⟩ := p
        simp only at h
        by_cases k : okScene ⟨l, u, f, t, n⟩ = true
        · rw [if_pos k] at h
          cases h
          exact ⟨rfl, k⟩
        · rw [if_neg k] at h
          cases h
theorem stands_up {s : Scene} {f t : Pt} (h : stands s f t = true) (h1 : f.2.2 = 1) (h2 : t.2.2 = 1) : TP.Up f t s.up ∧ dot s.l f ≠ 0 := by
  unfold stands at h
  simp only [Bool.and_eq_true, Bool.not_eq_true', bne_iff_ne, beq_iff_eq] at h
  obtain ⟨⟨⟨a, b⟩, _⟩, d⟩ := h
  exact ⟨⟨h1, h2, b, d⟩, a⟩
theorem ok_of {s : Scene} (sb : SB s) (h : okScene s = true) : TP.Ok s := by
  unfold okScene at h
  simp only [Bool.and_eq_true, Bool.not_eq_true', bne_iff_ne] at h
  obtain ⟨⟨⟨_, h2⟩, h3⟩, h4⟩ := h
  obtain ⟨u, lf⟩ := stands_up h3 sb.f1 sb.t1
  exact ⟨u, h4, lf, h2, by have := sb.np; omega⟩
theorem ratio_meas {s : Scene} {f t : Pt} (o : TP.Ok s) (u : TP.Up f t s.up) (lf : dot s.l f ≠ 0) :
    (TP.measP s f t).2 ≠ 0 ∧ ratio (height s f t) = [(TP.low (TP.measP s f t).1 (TP.measP s f t).2).1, (TP.low (TP.measP s f t).1 (TP.measP s f t).2).2] := by
  obtain ⟨h1, h2, h3⟩ := TP.meas_eq o u lf
  refine ⟨h1, ?_⟩
  unfold ratio
  rw [TP.frac_low h2, ← TP.low_eq h1 h2 h3]
theorem ratio_eye {s : Scene} (o : TP.Ok s) : (TP.eyeP s).2 ≠ 0 ∧ ratio (eye s) = [(TP.low (TP.eyeP s).1 (TP.eyeP s).2).1, (TP.low (TP.eyeP s).1 (TP.eyeP s).2).2] := by
  obtain ⟨h1, h2, h3⟩ := TP.eye_eq o
  refine ⟨h1, ?_⟩
  unfold ratio
  rw [TP.frac_low h2, ← TP.low_eq h1 h2 h3]
theorem told_head {s : Scene} {f : Pt} {p q : Int} (o : TP.Ok s) (hq : q ≠ 0) : toldP (TP.headP s f p q) = Kqy3Neutral.tell (orElse (place (headOf s f p q)) (-6)) := by
  unfold toldP
  rw [TP.head_eq o hq hq rfl]
theorem B_of {n : Nat} {x : Int} (h1 : -(2 ^ n) < x) (h2 : x < 2 ^ n) : B n x := by
  unfold B
  have e : ((2 ^ n : Nat) : Int) = 2 ^ n := by
    rw [Int.natCast_pow]
    rfl
  omega
theorem small_B {z : Int} (h : small z = true) : B 17 z := by
  unfold small at h
  simp only [Bool.and_eq_true, decide_eq_true_eq] at h
  exact B_of (by omega) (by omega)
theorem PB_pt {u v : Int} (h : small u = true) (k : small v = true) : PB 17 (pt u v) := ⟨small_B h, small_B k, by show (1 : Int).natAbs < 2 ^ 17; decide⟩
theorem all2 {a b : Int} (h : all [a, b] = true) : small a = true ∧ small b = true := by
  unfold all at h
  simpa using h
theorem all4 {a b c d : Int} (h : all [a, b, c, d] = true) : small a = true ∧ small b = true ∧ small c = true ∧ small d = true := by
  unfold all at h
  simpa using h
theorem bear_iff {s : Scene} {f : Pt} : (dot s.l f = 0 ∨ alike f s.up = true) ↔ bear s f = false := by
  unfold bear
  by_cases h : dot s.l f = 0
  · simp [h]
  · cases k : alike f s.up <;> simp [h]
/-! ### more steps -/
section
variable {σ : L2.St} {H : Hp} {Q : VK} {K : PySem.W.Frag} {v x y : V} {ta tb te tv : TE} {D : Ends}
theorem w_sl {r : V → Option Int → Option Int → Hp → VK → Prop} {tl th : TO} (h : te σ H fun x H1 => tl σ H1 fun l H2 => th σ H2 fun u H3 => r x l u H3 Q) : tSl r te tl th σ H Q := h
theorem w_noP {QO : Option Int → Hp → Prop} (q : QO none H) : tNoPart σ H QO := q
def PartK (QO : Option Int → Hp → Prop) (x : V) (H : Hp) : Prop := ∃ i, x = .int i ∧ QO (some i) H
theorem w_part {QO : Option Int → Hp → Prop} (h : te σ H fun x H1 => PartK QO x H1) : tPart te σ H QO := h
theorem w_partk {QO : Option Int → Hp → Prop} {i : Int} (q : QO (some i) H) : PartK QO (.int i) H := ⟨i, rfl, q⟩
theorem w_slL {a : Addr} {xs ys : List V} {lo hi : Option Int} (h : SqL K H a xs) (e : cutV xs lo hi = ys) (q : ∀ p H', Same H H' → H p = none → H' p = some (.lst ys) → Q (.ref p) H') : rSlL K (.ref a) lo hi H Q := ⟨a, xs, rfl, h, fun p hp => q p _ (same_new hp) hp (by rw [e]; exact upd_same)⟩
def SFldK (K : PySem.W.Frag) (f : Str) (D : Ends) (σ : L2.St) (y x : V) (H : Hp) : Prop := ∃ a C dx fs, x = .ref a ∧ H a = some (.ins C dx fs) ∧ Cls K C ∧ NoAttr K C f ∧ fs.length < 1000 ∧ D.nx σ (upd H a (.ins C dx (putF f y fs)))
theorem w_sfld {f : Str} (h : tv σ H fun y H1 => ta σ H1 fun x H2 => SFldK K f D σ y x H2) : sFld K ta tv f D σ H := h
theorem w_sfldk {f : Str} {a C dx : Addr} {fs gs : List (Str × V)} (ho : H a = some (.ins C dx fs)) (c : Cls K C) (n : NoAttr K C f) (l : fs.length < 1000) (e : putF f y fs = gs) (q : D.nx σ (upd H a (.ins C dx gs))) : SFldK K f D σ y (.ref a) H := ⟨a, C, dx, fs, rfl, ho, c, n, l, by rw [e]; exact q⟩
theorem put_here {f : Str} {v x : V} {r : List (Str × V)} : putF f v ((f, x) :: r) = (f, v) :: r := if_pos rfl
theorem put_past {f g : Str} {v x : V} {r : List (Str × V)} (h : ¬ g = f) : putF f v ((g, x) :: r) = (g, x) :: putF f v r := if_neg h
variable {a b c d e : V}
theorem put_horizon : putF "horizon" v (pF a b c d e) = pF v b c d e := put_here
theorem put_up : putF "up" v (pF a b c d e) = pF a v c d e := (put_past (by decide +kernel)).trans (congrArg _ put_here)
theorem put_foot : putF "post_foot" v (pF a b c d e) = pF a b v d e := (put_past (by decide +kernel)).trans (congrArg _ ((put_past (by decide +kernel)).trans (congrArg _ put_here)))
theorem put_head : putF "post_head" v (pF a b c d e) = pF a b c v e := (put_past (by decide +kernel)).trans (congrArg _ ((put_past (by decide +kernel)).trans (congrArg _ ((put_past (by decide +kernel)).trans (congrArg _ put_here)))))
theorem put_height : putF "post_height" v (pF a b c d e) = pF a b c d v := (put_past (by decide +kernel)).trans (congrArg _ ((put_past (by decide +kernel)).trans (congrArg _ ((put_past (by decide +kernel)).trans (congrArg _ ((put_past (by decide +kernel)).trans (congrArg _ put_here)))))))
end
theorem Tri.upd {H : Hp} {v : V} {p : Pt} {a C dx : Addr} {fs : List (Str × V)} {o : HO} (t : Tri H v p) (h : H a = some (.ins C dx fs)) : Tri (upd H a o) v p := by
  obtain ⟨b, rfl, hb⟩ := t.ex
  refine ⟨b, rfl, ?_⟩
  rw [upd_ne (ne_of hb h (by intro z; cases z))]
  exact hb
theorem OptT.upd {H : Hp} {v : V} {p : Option Pt} {a C dx : Addr} {fs : List (Str × V)} {o : HO} (t : OptT H v p) (h : H a = some (.ins C dx fs)) : OptT (upd H a o) v p := by
  cases p with
  | none => exact t
  | some p => exact Tri.upd t h
theorem PostT.upd {H : Hp} {x y z : V} {p : Option (Pt × Pt × Int)} {a C dx : Addr} {fs : List (Str × V)} {o : HO} (t : PostT H x y z p) (h : H a = some (.ins C dx fs)) : PostT (upd H a o) x y z p := by
  cases p with
  | none => exact t
  | some p => exact ⟨Tri.upd t.1 h, Tri.upd t.2.1 h, t.2.2⟩
theorem Keep.upd {H H' : Hp} {a : Addr} {o : HO} (k : Keep a H H') : Keep a H (upd H' a o) := fun b u h n => by
  rw [upd_ne n]
  exact k b u h n
theorem Keep.same {H H1 H2 : Hp} {a : Addr} (k : Keep a H H1) (e : Same H1 H2) : Keep a H H2 := fun b u h n => e b u (k b u h n)
theorem Keep.free {H H' : Hp} {a p : Addr} {o : HO} (k : Keep a H H') (h : H' p = none) (ha : H' a = some o) : H p = none := by
  cases q : H p with
  | none => rfl
  | some u =>
    by_cases e : p = a
    · rw [e, ha] at h
      cases h
    · rw [k p u q e] at h
      cases h
end TW
namespace TW
open PySem PySem.Spec PyProof.Rows L2 Kqy3
local macro_rules | `(tactic| walk_at "bb") => `(tactic| first | assumption | (apply B.mul <;> walk_at "bb") | (apply B.add <;> walk_at "bb") | (apply B.sub <;> walk_at "bb") | (apply B.neg; walk_at "bb"))
local macro_rules | `(tactic| walk_at "step") => `(tactic| first
  | with_reducible refine w_c ?_
  | ((with_reducible show tVar _ _ _ _); refine w_var (by exact rfl) ?_)
  | with_reducible refine w_op ?_
  | with_reducible refine w_un ?_
  | with_reducible refine w_rI0 ?_
  | with_reducible refine w_rU ?_
  | ((with_reducible show rI CMulW _ _ _ _ _); refine w_rI (by apply B.cmul <;> first | walk_at "bb" | decide) ?_)
  | ((with_reducible show rIxT _ _ _ _ _); refine w_ixT (by assumption) (by exact rfl) ?_)
  | ((with_reducible show rIxL _ _ _ _ _); refine w_ixL (by assumption) (by exact rfl) ?_)
  | with_reducible refine w_eq ?_
  | with_reducible refine w_ne ?_
  | with_reducible refine w_fld ?_
  | ((with_reducible show FldK _ _ _ _ _); refine w_fldk (by assumption) (by assumption) (by assumption) (by first | with_reducible exact pF_horizon | with_reducible exact pF_up | with_reducible exact pF_foot | with_reducible exact pF_head | with_reducible exact pF_height) ?_)
  | with_reducible refine w_cons ?_
  | with_reducible refine w_nil ?_
  | with_reducible refine w_cal ?_
  | with_reducible refine w_met ?_
  | ((with_reducible show MetK _ _ _ _ _ _ _ _); refine w_metk (by assumption) (by walk_at "nometh") ?_)
  | with_reducible refine w_tup ?_
  | with_reducible refine w_lst ?_
  | with_reducible refine w_cb ?_
  | with_reducible refine w_seq ?_
  | with_reducible refine w_asg ?_
  | with_reducible refine w_ret ?_
  | with_reducible refine w_if ?_
  | with_reducible refine w_next ?_
  | with_reducible refine w_test ?_
  | with_reducible refine w_tB ?_
  | with_reducible refine w_tstk ?_
  | with_reducible refine w_and ?_
  | with_reducible refine w_or ?_
  | with_reducible refine w_not ?_
  | with_reducible refine w_andV ?_
  | with_reducible refine w_notV ?_
  | ((with_reducible show V.non = V.non ∧ _); refine ⟨rfl, ?_⟩)
  | with_reducible refine w_notk ?_
  | with_reducible refine w_ifx ?_
  | with_reducible refine w_sl ?_
  | with_reducible refine w_noP ?_
  | with_reducible refine w_part ?_
  | with_reducible refine w_partk ?_
  | with_reducible refine w_sfld ?_)
local macro_rules | `(tactic| walk_at "go") => `(tactic| repeat walk_at "step")
local macro_rules | `(tactic| walk_at "nometh") => `(tactic| (refine (lk_past (by decide +kernel)).trans ((lk_past (by decide +kernel)).trans ((lk_past (by decide +kernel)).trans ((lk_past (by decide +kernel)).trans ((lk_past (by decide +kernel)).trans rfl))))))
section
variable {P : Program} {w : World} {K : PySem.W.Frag} {mg : Str → Option Value} {base : Heap} {C : Addr}
theorem sp_ans_len {C : Addr} {n : Int} {k : Nat} (vs : List V) (H : Hp) (Q : VK) (E : XK) (h : sp_ans C n k vs H Q E) : vs.length = ["picture", "numbers"].length := by
  obtain ⟨_, _, _, _, rfl, _⟩ := h
  rfl
/-! answer_start: nothing is left to do -/
abbrev s_answer_start : Stmt := top 23
theorem sc_answer_start : FnScope ["picture", "numbers"] ["picture", "numbers"] (defScope s_answer_start) := ⟨rfl, rfl, rfl, by decide +kernel, rfl, by decide +kernel, by decide +kernel⟩
def sp_start : Sp := fun vs H Q _ => ∃ u v, vs = [u, v] ∧ RetL H Q [0]
theorem ok_answer_start (d : DF K mg "answer_start" s_answer_start ["picture", "numbers"]) : Cal P w K mg base 1 "answer_start" sp_start := by
  refine d.cal sc_answer_start (fun vs H Q E h => ?_) (fun f cdv A outer s H vs Q E hr h => ⟨_, (pss_one (ps_ret (pe_lst (pa_cons pe_int pa_nil)))), ?_⟩)
  · obtain ⟨_, _, rfl, _⟩ := h
    rfl
  · obtain ⟨u, v, rfl, q⟩ := h
    walk_at "go"
    exact w_retL q rfl (by show 1 ≤ sizeLine; decide)
/-! answer_ready -/
abbrev s_answer_ready : Stmt := top 27
abbrev n_answer_ready : List Str := ["picture", "numbers"]
theorem sc_answer_ready : FnScope ["picture", "numbers"] ["picture", "numbers"] (defScope s_answer_ready) := ⟨rfl, rfl, rfl, by decide +kernel, rfl, by decide +kernel, by decide +kernel⟩
theorem ok_answer_ready (T : Txt K mg C) (d : DF K mg "answer_ready" s_answer_ready ["picture", "numbers"]) (c_one_if : Cal P w K mg base 1 "one_if" sp_one_if) (c_is_ready : MCal P w K mg base 5 C "is_ready" (sp_is_ready C)) : Cal P w K mg base 6 "answer_ready" (sp_ans C 4 0) := by
  refine d.cal sc_answer_ready sp_ans_len (fun f cdv A outer s H vs Q E hr h => ⟨_, (pss_one (ps_ret (pe_lst (pa_cons (pe_cal c_one_if (hr.mono (by decide)) rfl (pa_cons (pe_met0 c_is_ready T.cl (hr.mono (by decide)) (pv 0)) pa_nil)) pa_nil)))), ?_⟩)
  obtain ⟨a, b, st, ns, rfl, pa, sb, hb, hl, q⟩ := h
  obtain rfl : ns = [] := List.length_eq_zero_iff.mp hl
  have q' := ans_pure (ans := [if (sceneOf st).isSome then 1 else 0]) pa sb rfl q
  obtain ⟨a', dx, vh, vu, vf, vt, vn, ea, h1, h2, h3, h4⟩ := pa.ex
  cases ea
  walk_at "go"
  refine ⟨_, st, rfl, pa, sb, fun H1 e1 => ?_⟩
  replace q' := q'.go e1
  walk_at "go"
  refine ⟨_, rfl, ?_⟩
  walk_at "go"
  exact w_retL q' rfl (by show 1 ≤ sizeLine; decide)
/-! answer_height -/
abbrev s_answer_height : Stmt := top 28
abbrev n_answer_height : List Str := ["picture", "numbers", "points"]
theorem sc_answer_height : FnScope ["picture", "numbers", "points"] ["picture", "numbers"] (defScope s_answer_height) := ⟨rfl, rfl, rfl, by decide +kernel, rfl, by decide +kernel, by decide +kernel⟩
theorem ok_answer_height (T : Txt K mg C) (d : DF K mg "answer_height" s_answer_height ["picture", "numbers"]) (c_are_seen : Cal P w K mg base 2 "are_seen" (sp_are_seen K)) (c_points_of : Cal P w K mg base 1 "points_of" (sp_points_of K)) (c_is_ready : MCal P w K mg base 5 C "is_ready" (sp_is_ready C))
    (c_is_standing : MCal P w K mg base 4 C "is_standing" (sp_is_standing C)) (c_measure : MCal P w K mg base 3 C "measure" (sp_measure C)) : Cal P w K mg base 6 "answer_height" (sp_ans C 5 4) := by
  refine d.cal sc_answer_height sp_ans_len (fun f cdv A outer s H vs Q E hr h => ⟨_, (pss_cons (ps_if (pt_not (pt_val (pe_cal c_are_seen (hr.mono (by decide)) rfl (pa_cons (pv 1) pa_nil)))) (pss_one (ps_ret (pe_lst (pa_cons (pe_const T.k_OUT_OF_RANGE rfl) pa_nil)))) pss_nil)
      (pss_cons (ps_if (pt_not (pt_val (pe_met0 c_is_ready T.cl (hr.mono (by decide)) (pv 0)))) (pss_one (ps_ret (pe_lst (pa_cons (pe_const T.k_NOT_READY rfl) pa_nil)))) pss_nil)
      (pss_cons (ps_set (i := 2) sc_answer_height.nd rfl (Or.inl rfl) (pe_cal c_points_of (hr.mono (by decide)) rfl (pa_cons (pv 1) pa_nil)))
      (pss_cons (ps_if (pt_not (pt_val (pe_met c_is_standing T.cl (hr.mono (by decide)) (pv 0) (pa_cons (pe_ix ix_list (pv 2) pe_int (fun _ _ => rfl)) (pa_cons (pe_ix ix_list (pv 2) pe_int (fun _ _ => rfl)) pa_nil))))) (pss_one (ps_ret (pe_lst (pa_cons (pe_const T.k_NOT_STANDING rfl) pa_nil)))) pss_nil)
      (pss_one (ps_ret (pe_op op_cat (pe_lst (pa_cons pe_int pa_nil)) (pe_callTy call_lstR (by rfl) T.b_list (by decide +kernel) (pa_cons (pe_met c_measure T.cl (hr.mono (by decide)) (pv 0) (pa_cons (pe_ix ix_list (pv 2) pe_int (fun _ _ => rfl)) (pa_cons (pe_ix ix_list (pv 2) pe_int (fun _ _ => rfl)) pa_nil))) pa_nil))))))))), ?_⟩)
  obtain ⟨a, b, st, ns, rfl, pa, sb, hb, hl, q⟩ := h
  match ns, hl with
  | [n1, n2, n3, n4], _ =>
  have q' := ans_pure (ans := Kqy3Neutral.tell (if all [n1, n2, n3, n4] = false then .num (-22) else needs st fun z => if stands z (pt n1 n2) (pt n3 n4) = false then .num (-33) else .some_ 0 (ratio (height z (pt n1 n2) (pt n3 n4))))) pa sb rfl q
  clear q
  obtain ⟨a', dx, vh, vu, vf, vt, vn, ea, h1, h2, h3, h4⟩ := pa.ex
  cases ea
  clear h2 h3 h4
  walk_at "go"
  refine ⟨b, _, rfl, SqL.of hb, ?_⟩
  walk_at "go"
  cases ha : all [n1, n2, n3, n4] with
  | false =>
    rw [ha, if_pos rfl] at q'
    refine ite_t rfl ?_
    walk_at "go"
    exact w_retL q' rfl (by show 1 ≤ sizeLine; decide)
  | true =>
    rw [ha, if_neg (by decide)] at q'
    refine ite_f rfl ?_
    obtain ⟨m1, m2, m3, m4⟩ := all4 ha
    walk_at "go"
    refine ⟨_, st, rfl, pa, sb, fun H1 e1 => ?_⟩
    replace q' := q'.go e1
    replace hb := e1 _ _ hb
    replace h1 := e1 _ _ h1
    walk_at "go"
    cases hz : sceneOf st with
    | none =>
      unfold needs at q'
      rw [hz] at q'
      refine ite_t rfl ?_
      walk_at "go"
      exact w_retL q' rfl (by show 1 ≤ sizeLine; decide)
    | some z =>
      unfold needs at q'
      rw [hz] at q'
      simp only at q'
      refine ite_f rfl ?_
      obtain ⟨rfl, oz⟩ := scene_some hz
      have sB := sb.sb
      have sa := pa.sc.same e1
      have sq := SqL.of (K := K) hb
      walk_at "go"
      refine ⟨b, [n1, n2, n3, n4], 2, rfl, sq, rfl, by decide, fun p2 H2 us e2 f2 hp2 ts => ?_⟩
      obtain ⟨v2, v3, rfl, t2, t3⟩ := pts2 ts
      replace q' := q'.go e2
      replace h1 := e2 _ _ h1
      replace sa := sa.same e2
      have sp2 := SqL.of (K := K) hp2
      walk_at "go"
      refine ⟨_, _, _, z, _, _, rfl, sa, sB, t2, PB_pt m1 m2, t3, PB_pt m3 m4, fun H4 e4 => ?_⟩
      replace q' := q'.go e4
      replace h1 := e4 _ _ h1
      replace sa := sa.same e4
      replace t2 := t2.same e4
      replace t3 := t3.same e4
      replace sp2 := e4.seq sp2
      walk_at "go"
      cases hs : stands z (pt n1 n2) (pt n3 n4) with
      | false =>
        rw [hs, if_pos rfl] at q'
        refine ite_t rfl ?_
        walk_at "go"
        exact w_retL q' rfl (by show 1 ≤ sizeLine; decide)
      | true =>
        rw [hs, if_neg (by decide)] at q'
        refine ite_f rfl ?_
        obtain ⟨up, lf⟩ := stands_up hs rfl rfl
        obtain ⟨nz, er⟩ := ratio_meas (ok_of sB oz) up lf
        rw [er] at q'
        walk_at "go"
        refine w_newL (by show 1 ≤ sizeLine; decide) fun a5 H5 e5 n5 h5 => ?_
        replace h1 := e5 _ _ h1
        replace sp2 := e5.seq sp2
        walk_at "go"
        refine ⟨_, _, _, z, _, _, rfl, sa.same e5, sB, t2.same e5, PB_pt m1 m2, t3.same e5, PB_pt m3 m4, nz, fun y6 H6 e6 t6 => ?_⟩
        walk_at "go"
        refine w_list2 t6 fun a7 H7 e7 n7 h7 => ?_
        exact w_cat (xs := [0]) ((e6.trans e7) _ _ h5) h7 (by show 3 ≤ 1000; decide) (q'.go (e5.trans (e6.trans e7)))
end
end TW
namespace TW
open PySem PySem.Spec PyProof.Rows L2 Kqy3
local macro_rules | `(tactic| walk_at "bb") => `(tactic| first | assumption | (apply B.mul <;> walk_at "bb") | (apply B.add <;> walk_at "bb") | (apply B.sub <;> walk_at "bb") | (apply B.neg; walk_at "bb"))
local macro_rules | `(tactic| walk_at "step") => `(tactic| first
  | with_reducible refine w_c ?_
  | ((with_reducible show tVar _ _ _ _); refine w_var (by exact rfl) ?_)
  | with_reducible refine w_op ?_
  | with_reducible refine w_un ?_
  | with_reducible refine w_rI0 ?_
  | with_reducible refine w_rU ?_
  | ((with_reducible show rI CMulW _ _ _ _ _); refine w_rI (by apply B.cmul <;> first | walk_at "bb" | decide) ?_)
  | ((with_reducible show rIxT _ _ _ _ _); refine w_ixT (by assumption) (by exact rfl) ?_)
  | ((with_reducible show rIxL _ _ _ _ _); refine w_ixL (by assumption) (by exact rfl) ?_)
  | with_reducible refine w_eq ?_
  | with_reducible refine w_ne ?_
  | with_reducible refine w_fld ?_
  | ((with_reducible show FldK _ _ _ _ _); refine w_fldk (by assumption) (by assumption) (by assumption) (by first | with_reducible exact pF_horizon | with_reducible exact pF_up | with_reducible exact pF_foot | with_reducible exact pF_head | with_reducible exact pF_height) ?_)
  | with_reducible refine w_cons ?_
  | with_reducible refine w_nil ?_
  | with_reducible refine w_cal ?_
  | with_reducible refine w_met ?_
  | ((with_reducible show MetK _ _ _ _ _ _ _ _); refine w_metk (by assumption) (by walk_at "nometh") ?_)
  | with_reducible refine w_tup ?_
  | with_reducible refine w_lst ?_
  | with_reducible refine w_cb ?_
  | with_reducible refine w_seq ?_
  | with_reducible refine w_asg ?_
  | with_reducible refine w_ret ?_
  | with_reducible refine w_if ?_
  | with_reducible refine w_next ?_
  | with_reducible refine w_test ?_
  | with_reducible refine w_tB ?_
  | with_reducible refine w_tstk ?_
  | with_reducible refine w_and ?_
  | with_reducible refine w_or ?_
  | with_reducible refine w_not ?_
  | with_reducible refine w_andV ?_
  | with_reducible refine w_notV ?_
  | ((with_reducible show V.non = V.non ∧ _); refine ⟨rfl, ?_⟩)
  | with_reducible refine w_notk ?_
  | with_reducible refine w_ifx ?_
  | with_reducible refine w_sl ?_
  | with_reducible refine w_noP ?_
  | with_reducible refine w_part ?_
  | with_reducible refine w_partk ?_
  | with_reducible refine w_sfld ?_)
local macro_rules | `(tactic| walk_at "go") => `(tactic| repeat walk_at "step")
local macro_rules | `(tactic| walk_at "nometh") => `(tactic| (refine (lk_past (by decide +kernel)).trans ((lk_past (by decide +kernel)).trans ((lk_past (by decide +kernel)).trans ((lk_past (by decide +kernel)).trans ((lk_past (by decide +kernel)).trans rfl))))))
section
variable {P : Program} {w : World} {K : PySem.W.Frag} {mg : Str → Option Value} {base : Heap} {C : Addr}
/-! answer_eye -/
abbrev s_answer_eye : Stmt := top 29
theorem sc_answer_eye : FnScope ["picture", "numbers"] ["picture", "numbers"] (defScope s_answer_eye) := ⟨rfl, rfl, rfl, by decide +kernel, rfl, by decide +kernel, by decide +kernel⟩
theorem ok_answer_eye (T : Txt K mg C) (d : DF K mg "answer_eye" s_answer_eye ["picture", "numbers"]) (c_is_ready : MCal P w K mg base 5 C "is_ready" (sp_is_ready C)) (c_eye_height : MCal P w K mg base 3 C "eye_height" (sp_eye_height C)) : Cal P w K mg base 6 "answer_eye" (sp_ans C 6 0) := by
  refine d.cal sc_answer_eye sp_ans_len (fun f cdv A outer s H vs Q E hr h => ⟨_, (pss_cons (ps_if (pt_not (pt_val (pe_met0 c_is_ready T.cl (hr.mono (by decide)) (pv 0)))) (pss_one (ps_ret (pe_lst (pa_cons (pe_const T.k_NOT_READY rfl) pa_nil)))) pss_nil)
      (pss_one (ps_ret (pe_op op_cat (pe_lst (pa_cons pe_int pa_nil)) (pe_callTy call_lstR (by rfl) T.b_list (by decide +kernel) (pa_cons (pe_met0 c_eye_height T.cl (hr.mono (by decide)) (pv 0)) pa_nil)))))), ?_⟩)
  obtain ⟨a, b, st, ns, rfl, pa, sb, hb, hl, q⟩ := h
  obtain rfl : ns = [] := List.length_eq_zero_iff.mp hl
  have q' := ans_pure (ans := Kqy3Neutral.tell (needs st fun z => .some_ 0 (ratio (eye z)))) pa sb rfl q
  clear q
  obtain ⟨a', dx, vh, vu, vf, vt, vn, ea, h1, h2, h3, h4⟩ := pa.ex
  cases ea
  clear h2 h3 h4
  walk_at "go"
  refine ⟨_, st, rfl, pa, sb, fun H1 e1 => ?_⟩
  replace q' := q'.go e1
  replace h1 := e1 _ _ h1
  walk_at "go"
  unfold needs at q'
  cases hz : sceneOf st with
  | none =>
    rw [hz] at q'
    refine ite_t rfl ?_
    walk_at "go"
    exact w_retL q' rfl (by show 1 ≤ sizeLine; decide)
  | some z =>
    rw [hz] at q'
    simp only at q'
    refine ite_f rfl ?_
    obtain ⟨rfl, oz⟩ := scene_some hz
    have sB := sb.sb
    have sa := pa.sc.same e1
    obtain ⟨nz, er⟩ := ratio_eye (ok_of sB oz)
    rw [er] at q'
    walk_at "go"
    refine w_newL (by show 1 ≤ sizeLine; decide) fun a5 H5 e5 n5 h5 => ?_
    replace h1 := e5 _ _ h1
    walk_at "go"
    refine ⟨_, z, rfl, sa.same e5, sB, nz, fun y6 H6 e6 t6 => ?_⟩
    walk_at "go"
    refine w_list2 t6 fun a7 H7 e7 n7 h7 => ?_
    exact w_cat (xs := [0]) ((e6.trans e7) _ _ h5) h7 (by show 3 ≤ 1000; decide) (q'.go (e5.trans (e6.trans e7)))
/-! answer_head -/
theorem within_inR {m z : Int} : within m z = inR (-m) m z := rfl
theorem height_iff {q : Int} : (q < 1 ∨ 1000 < q) ↔ inR 1 1000 q = false := by
  unfold inR
  rw [Bool.and_eq_false_iff, decide_eq_false_iff_not, decide_eq_false_iff_not]
  omega
theorem inR_B {lo hi z : Int} {n : Nat} (h : inR lo hi z = true) (h1 : -(2 ^ n) < lo) (h2 : hi < 2 ^ n) : B n z := by
  unfold inR at h
  rw [Bool.and_eq_true, decide_eq_true_eq, decide_eq_true_eq] at h
  exact B_of (by omega) (by omega)
theorem inR_le {lo hi z : Int} (h : inR lo hi z = true) : lo ≤ z ∧ z ≤ hi := by
  unfold inR at h
  rwa [Bool.and_eq_true, decide_eq_true_eq, decide_eq_true_eq] at h
abbrev s_answer_head : Stmt := top 30
theorem sc_answer_head : FnScope ["picture", "numbers", "foot"] ["picture", "numbers"] (defScope s_answer_head) := ⟨rfl, rfl, rfl, by decide +kernel, rfl, by decide +kernel, by decide +kernel⟩
theorem PB_head {s : Scene} {f : Pt} {p q : Int} (sb : SB s) (bf : PB 17 f) (hp : B 300 p) (hq : B 300 q) : PB 7000 (TP.headP s f p q) := by
  obtain ⟨b3, b4⟩ := B_scale sb
  have b5 := B_dot sb.l bf
  have x1 : B 1000 (p * dot s.l f * (TP.scaleP s).2) := ((hp.mul b5).mul b4).mono (by decide)
  have x2 : B 1000 (q * (TP.scaleP s).1) := (hq.mul b3).mono (by decide)
  exact ⟨((x2.mul bf.a).sub (x1.mul sb.u.a)).mono (by decide), ((x2.mul bf.b).sub (x1.mul sb.u.b)).mono (by decide), ((x2.mul bf.c).sub (x1.mul sb.u.c)).mono (by decide)⟩
theorem ok_answer_head (T : Txt K mg C) (d : DF K mg "answer_head" s_answer_head ["picture", "numbers"]) (c_are_seen : Cal P w K mg base 2 "are_seen" (sp_are_seen K)) (c_are_within : Cal P w K mg base 1 "are_within" (sp_are_within K)) (c_points_of : Cal P w K mg base 1 "points_of" (sp_points_of K))
    (c_tell_place : Cal P w K mg base 3 "tell_place" sp_tell_place) (c_is_ready : MCal P w K mg base 5 C "is_ready" (sp_is_ready C))
    (c_can_bear : MCal P w K mg base 3 C "can_bear" (sp_can_bear C)) (c_place_head : MCal P w K mg base 3 C "place_head" (sp_place_head C)) : Cal P w K mg base 6 "answer_head" (sp_ans C 7 4) := by
  refine d.cal sc_answer_head sp_ans_len (fun f cdv A outer s H vs Q E hr h => ⟨_, (pss_cons (ps_if (PW.pt (pw_or (pt_not (pt_val (pe_cal c_are_seen (hr.mono (by decide)) rfl (pa_cons (pe_slice sl_list (pv 1) po_none (po_some pe_int)) pa_nil)))) (pw_or1 (pt_not (pt_val (pe_cal c_are_within (hr.mono (by decide)) rfl (pa_cons (pe_slice sl_list (pv 1) (po_some pe_int) (po_some pe_int)) (pa_cons (pe_un un_neg pe_int) (pa_cons pe_int pa_nil))))))))) (pss_one (ps_ret (pe_lst (pa_cons (pe_const T.k_OUT_OF_RANGE rfl) pa_nil)))) pss_nil)
      (pss_cons (ps_if (pt_not (pt_val (pe_cal c_are_within (hr.mono (by decide)) rfl (pa_cons (pe_slice sl_list (pv 1) (po_some pe_int) po_none) (pa_cons pe_int (pa_cons pe_int pa_nil)))))) (pss_one (ps_ret (pe_lst (pa_cons (pe_const T.k_OUT_OF_RANGE rfl) pa_nil)))) pss_nil)
      (pss_cons (ps_if (pt_not (pt_val (pe_met0 c_is_ready T.cl (hr.mono (by decide)) (pv 0)))) (pss_one (ps_ret (pe_lst (pa_cons (pe_const T.k_NOT_READY rfl) pa_nil)))) pss_nil)
      (pss_cons (ps_set (i := 2) sc_answer_head.nd rfl (Or.inl rfl) (pe_ix ix_list (pe_cal c_points_of (hr.mono (by decide)) rfl (pa_cons (pe_slice sl_list (pv 1) po_none (po_some pe_int)) pa_nil)) pe_int (fun _ _ => rfl)))
      (pss_cons (ps_if (pt_not (pt_val (pe_met c_can_bear T.cl (hr.mono (by decide)) (pv 0) (pa_cons (pv 2) pa_nil)))) (pss_one (ps_ret (pe_lst (pa_cons (pe_const T.k_NOT_STANDING rfl) pa_nil)))) pss_nil)
      (pss_one (ps_ret (pe_cal c_tell_place (hr.mono (by decide)) rfl (pa_cons (pe_met c_place_head T.cl (hr.mono (by decide)) (pv 0) (pa_cons (pv 2) (pa_cons (pe_ix ix_list (pv 1) pe_int (fun _ _ => rfl)) (pa_cons (pe_ix ix_list (pv 1) pe_int (fun _ _ => rfl)) pa_nil)))) pa_nil))))))))), ?_⟩)
  obtain ⟨a, b, st, ns, rfl, pa, sb, hb, hl, q⟩ := h
  match ns, hl with
  | [n1, n2, n3, n4], _ =>
  have q' := ans_pure (ans := Kqy3Neutral.tell (if all [n1, n2] = false ∨ within 1000 n3 = false ∨ n4 < 1 ∨ 1000 < n4 then .num (-22) else needs st fun z => if dot z.l (pt n1 n2) = 0 ∨ alike (pt n1 n2) z.up = true then .num (-33) else orElse (place (headOf z (pt n1 n2) n3 n4)) (-6))) pa sb rfl q
  clear q
  obtain ⟨a', dx, vh, vu, vf, vt, vn, ea, h1, h2, h3, h4⟩ := pa.ex
  cases ea
  clear h2 h3 h4
  simp only [height_iff, bear_iff, within_inR] at q'
  have sq := SqL.of (K := K) hb
  walk_at "go"
  refine w_slL sq (ys := [n1, n2].map V.int) rfl fun p1 H1 e1 f1 g1 => ?_
  replace q' := q'.go e1
  replace h1 := e1 _ _ h1
  replace sq := e1.seq sq
  replace pa := pa.same e1
  walk_at "go"
  refine ⟨p1, _, rfl, SqL.of g1, ?_⟩
  walk_at "go"
  cases ha : all [n1, n2] with
  | false =>
    rw [ha, if_pos (.inl rfl)] at q'
    refine ite_t rfl ?_
    refine ite_t rfl ?_
    walk_at "go"
    exact w_retL q' rfl (by show 1 ≤ sizeLine; decide)
  | true =>
    rw [ha] at q'
    refine ite_f rfl ?_
    obtain ⟨m1, m2⟩ := all2 ha
    walk_at "go"
    refine w_slL sq (ys := [n3].map V.int) rfl fun p2 H2 e2 f2 g2 => ?_
    replace q' := q'.go e2
    replace h1 := e2 _ _ h1
    replace sq := e2.seq sq
    replace pa := pa.same e2
    walk_at "go"
    refine ⟨p2, [n3], _, _, rfl, SqL.of g2, ?_⟩
    have e3 : [n3].all (inR (-1000) 1000) = inR (-1000) 1000 n3 := by simp
    rw [e3]
    walk_at "go"
    cases hw : inR (-1000) 1000 n3 with
    | false =>
      rw [hw, if_pos (.inr (.inl rfl))] at q'
      refine ite_t rfl ?_
      walk_at "go"
      exact w_retL q' rfl (by show 1 ≤ sizeLine; decide)
    | true =>
      rw [hw] at q'
      refine ite_f rfl ?_
      walk_at "go"
      refine w_slL sq (ys := [n4].map V.int) rfl fun p4 H4 e4 f4 g4 => ?_
      replace q' := q'.go e4
      replace h1 := e4 _ _ h1
      replace sq := e4.seq sq
      replace pa := pa.same e4
      walk_at "go"
      refine ⟨p4, [n4], _, _, rfl, SqL.of g4, ?_⟩
      have e5 : [n4].all (inR 1 1000) = inR 1 1000 n4 := by simp
      rw [e5]
      walk_at "go"
      cases hh : inR 1 1000 n4 with
      | false =>
        rw [hh, if_pos (.inr (.inr rfl))] at q'
        refine ite_t rfl ?_
        walk_at "go"
        exact w_retL q' rfl (by show 1 ≤ sizeLine; decide)
      | true =>
        rw [hh, if_neg (by simp)] at q'
        refine ite_f rfl ?_
        walk_at "go"
        refine ⟨_, st, rfl, pa, sb, fun H6 e6 => ?_⟩
        replace q' := q'.go e6
        replace h1 := e6 _ _ h1
        replace sq := e6.seq sq
        walk_at "go"
        unfold needs at q'
        cases hz : sceneOf st with
        | none =>
          rw [hz] at q'
          refine ite_t rfl ?_
          walk_at "go"
          exact w_retL q' rfl (by show 1 ≤ sizeLine; decide)
        | some z =>
          rw [hz] at q'
          simp only at q'
          refine ite_f rfl ?_
          obtain ⟨rfl, oz⟩ := scene_some hz
          have sB := sb.sb
          have sa := pa.sc.same e6
          walk_at "go"
          refine w_slL sq (ys := [n1, n2].map V.int) rfl fun p6 G6 e6' f6 g6 => ?_
          replace q' := q'.go e6'
          replace h1 := e6' _ _ h1
          replace sa := sa.same e6'
          replace sq := e6'.seq sq
          walk_at "go"
          refine ⟨p6, [n1, n2], 1, rfl, SqL.of g6, rfl, by decide, fun p7 H7 us e7 f7 hp7 ts => ?_⟩
          obtain ⟨v7, rfl, t7⟩ := pts1 ts
          have sp7 := SqL.of (K := K) hp7
          replace q' := q'.go e7
          replace h1 := e7 _ _ h1
          replace sa := sa.same e7
          replace sq := e7.seq sq
          walk_at "go"
          refine ⟨_, _, z, _, rfl, sa, sB, t7, PB_pt m1 m2, fun H8 e8 => ?_⟩
          replace q' := q'.go e8
          replace h1 := e8 _ _ h1
          replace sa := sa.same e8
          replace sq := e8.seq sq
          replace t7 := t7.same e8
          walk_at "go"
          cases hs : bear z (pt n1 n2) with
          | false =>
            rw [hs, if_pos rfl] at q'
            refine ite_t rfl ?_
            walk_at "go"
            exact w_retL q' rfl (by show 1 ≤ sizeLine; decide)
          | true =>
            rw [hs, if_neg (by decide)] at q'
            refine ite_f rfl ?_
            have n0 : n4 ≠ 0 := by
              have := (inR_le hh).1
              omega
            rw [← told_head (ok_of sB oz) n0] at q'
            walk_at "go"
            refine ⟨_, _, z, _, _, _, rfl, sa, sB, t7, PB_pt m1 m2, inR_B hw (by decide) (by decide), inR_B hh (by decide) (by decide), fun y9 H9 e9 t9 => ?_⟩
            replace q' := q'.go e9
            walk_at "go"
            exact ⟨_, _, rfl, t9, PB_head sB (PB_pt m1 m2) (inR_B hw (by decide) (by decide)) (inR_B hh (by decide) (by decide)), q'⟩
end
end TW
namespace TW
open PySem PySem.Spec PyProof.Rows L2 Kqy3
local macro_rules | `(tactic| walk_at "bb") => `(tactic| first | assumption | (apply B.mul <;> walk_at "bb") | (apply B.add <;> walk_at "bb") | (apply B.sub <;> walk_at "bb") | (apply B.neg; walk_at "bb"))
local macro_rules | `(tactic| walk_at "step") => `(tactic| first
  | with_reducible refine w_c ?_
  | ((with_reducible show tVar _ _ _ _); refine w_var (by exact rfl) ?_)
  | with_reducible refine w_op ?_
  | with_reducible refine w_un ?_
  | with_reducible refine w_rI0 ?_
  | with_reducible refine w_rU ?_
  | ((with_reducible show rI CMulW _ _ _ _ _); refine w_rI (by apply B.cmul <;> first | walk_at "bb" | decide) ?_)
  | ((with_reducible show rIxT _ _ _ _ _); refine w_ixT (by assumption) (by exact rfl) ?_)
  | ((with_reducible show rIxL _ _ _ _ _); refine w_ixL (by assumption) (by exact rfl) ?_)
  | with_reducible refine w_eq ?_
  | with_reducible refine w_ne ?_
  | with_reducible refine w_fld ?_
  | ((with_reducible show FldK _ _ _ _ _); refine w_fldk (by assumption) (by assumption) (by assumption) (by first | with_reducible exact pF_horizon | with_reducible exact pF_up | with_reducible exact pF_foot | with_reducible exact pF_head | with_reducible exact pF_height) ?_)
  | with_reducible refine w_cons ?_
  | with_reducible refine w_nil ?_
  | with_reducible refine w_cal ?_
  | with_reducible refine w_met ?_
  | ((with_reducible show MetK _ _ _ _ _ _ _ _); refine w_metk (by assumption) (by walk_at "nometh") ?_)
  | with_reducible refine w_tup ?_
  | with_reducible refine w_lst ?_
  | with_reducible refine w_cb ?_
  | with_reducible refine w_seq ?_
  | with_reducible refine w_asg ?_
  | with_reducible refine w_ret ?_
  | with_reducible refine w_if ?_
  | with_reducible refine w_next ?_
  | with_reducible refine w_test ?_
  | with_reducible refine w_tB ?_
  | with_reducible refine w_tstk ?_
  | with_reducible refine w_and ?_
  | with_reducible refine w_or ?_
  | with_reducible refine w_not ?_
  | with_reducible refine w_andV ?_
  | with_reducible refine w_notV ?_
  | ((with_reducible show V.non = V.non ∧ _); refine ⟨rfl, ?_⟩)
  | with_reducible refine w_notk ?_
  | with_reducible refine w_ifx ?_
  | with_reducible refine w_sl ?_
  | with_reducible refine w_noP ?_
  | with_reducible refine w_part ?_
  | with_reducible refine w_partk ?_
  | with_reducible refine w_sfld ?_)
local macro_rules | `(tactic| walk_at "go") => `(tactic| repeat walk_at "step")
local macro_rules | `(tactic| walk_at "nometh") => `(tactic| (refine (lk_past (by decide +kernel)).trans ((lk_past (by decide +kernel)).trans ((lk_past (by decide +kernel)).trans ((lk_past (by decide +kernel)).trans ((lk_past (by decide +kernel)).trans rfl))))))
section
variable {P : Program} {w : World} {K : PySem.W.Frag} {mg : Str → Option Value} {base : Heap} {C : Addr}
/-- what a call that told something answers -/
theorem ret_told {a C dx : Addr} {fs : List (Str × V)} {H H2 : Hp} {Q : VK} {st st' : State} {n : Int} {ns : List Int} (e : stepS st n ns = (some st', [0])) (k : Keep a H H2) (ho : H2 a = some (.ins C dx fs)) (pa : PicAt C H2 (.ref a) st') (sb : StB st')
    (q : ∀ p H' st', (stepS st n ns).1 = some st' → Keep a H H' → H p = none → PicAt C H' (.ref a) st' → StB st' → H' p = some (.lst ((stepS st n ns).2.map V.int)) → Q (.ref p) H') : NewL [.int 0] H2 Q := by
  rw [e] at q
  exact w_newL (by show 1 ≤ sizeLine; decide) fun p H' e1 hp h => q p H' st' rfl (k.same e1) (k.free hp ho) (pa.same e1) sb h
abbrev s_answer_horizon : Stmt := top 24
theorem sc_answer_horizon : FnScope ["picture", "numbers"] ["picture", "numbers"] (defScope s_answer_horizon) := ⟨rfl, rfl, rfl, by decide +kernel, rfl, by decide +kernel, by decide +kernel⟩
theorem step_horizon0 {st : State} {a b c : Int} : stepS st 1 [a, b, c] = (if (within 1000 a && within 1000 b && within 100000 c) = false ∨ (a = 0 ∧ b = 0) then (some st, [-22]) else (some { st with l := some (a, b, c) }, [0])) := by
  unfold stepS Kqy3Neutral.step Kqy3Neutral.callOf
  simp only [Kqy3.step]
  split <;> rfl
theorem step_horizon {st : State} {a b c : Int} : stepS st 1 [a, b, c] = (if (inR (-1000) 1000 a && inR (-1000) 1000 b && inR (-100000) 100000 c) = false ∨ (a = 0 ∧ b = 0) then (some st, [-22]) else (some { st with l := some (a, b, c) }, [0])) := step_horizon0
theorem all_two {lo hi a b : Int} : [a, b].all (inR lo hi) = (inR lo hi a && inR lo hi b) := by simp
theorem all_one {lo hi a : Int} : [a].all (inR lo hi) = inR lo hi a := by simp
theorem ok_answer_horizon (T : Txt K mg C) (d : DF K mg "answer_horizon" s_answer_horizon ["picture", "numbers"]) (c_are_within : Cal P w K mg base 1 "are_within" (sp_are_within K)) : Cal P w K mg base 2 "answer_horizon" (sp_ans C 1 3) := by
  refine d.cal sc_answer_horizon sp_ans_len (fun f cdv A outer s H vs Q E hr h => ⟨_, (pss_cons (ps_if (PW.pt (pw_or (pt_not (pt_val (pe_cal c_are_within (hr.mono (by decide)) rfl (pa_cons (pe_slice sl_list (pv 1) po_none (po_some pe_int)) (pa_cons (pe_un un_neg pe_int) (pa_cons pe_int pa_nil)))))) (pw_or1 (pt_not (pt_val (pe_cal c_are_within (hr.mono (by decide)) rfl (pa_cons (pe_slice sl_list (pv 1) (po_some pe_int) po_none) (pa_cons (pe_un un_neg pe_int) (pa_cons pe_int pa_nil))))))))) (pss_one (ps_ret (pe_lst (pa_cons (pe_const T.k_OUT_OF_RANGE rfl) pa_nil)))) pss_nil)
      (pss_cons (ps_if (PW.pt (pw_and (pt_cmpR op_eq (pe_ix ix_list (pv 1) pe_int (fun _ _ => rfl)) pe_int (nomark _)) (pw_and1 (pt_cmpR op_eq (pe_ix ix_list (pv 1) pe_int (fun _ _ => rfl)) pe_int (nomark _))))) (pss_one (ps_ret (pe_lst (pa_cons (pe_const T.k_OUT_OF_RANGE rfl) pa_nil)))) pss_nil)
      (pss_cons (ps_fld (pv 0) (pe_callTy call_tupR (by rfl) T.b_tuple (by decide +kernel) (pa_cons (pv 1) pa_nil)) rfl)
      (pss_one (ps_ret (pe_lst (pa_cons pe_int pa_nil))))))), ?_⟩)
  obtain ⟨a, b, st, ns, rfl, pa, sb, hb, hl, q⟩ := h
  match ns, hl with
  | [n1, n2, n3], _ =>
  obtain ⟨cl, a1, a2, a3, a4, a5⟩ := T.at_
  have es := step_horizon (st := st) (a := n1) (b := n2) (c := n3)
  have sq := SqL.of (K := K) hb
  walk_at "go"
  refine w_slL sq (ys := [n1, n2].map V.int) rfl fun p1 H1 e1 f1 g1 => ?_
  replace sq := e1.seq sq
  walk_at "go"
  refine ⟨p1, _, _, _, rfl, SqL.of g1, ?_⟩
  rw [all_two]
  walk_at "go"
  cases hw : (inR (-1000) 1000 n1 && inR (-1000) 1000 n2) with
  | false =>
    rw [hw, if_pos (.inl rfl)] at es
    refine ite_t rfl ?_
    refine ite_t rfl ?_
    walk_at "go"
    exact w_retL ((ans_pure pa sb es q).go e1) rfl (by show 1 ≤ sizeLine; decide)
  | true =>
    rw [hw] at es
    refine ite_f rfl ?_
    walk_at "go"
    refine w_slL sq (ys := [n3].map V.int) rfl fun p2 H2 e2 f2 g2 => ?_
    replace sq := e2.seq sq
    have e12 := e1.trans e2
    walk_at "go"
    refine ⟨p2, _, _, _, rfl, SqL.of g2, ?_⟩
    rw [all_one]
    walk_at "go"
    cases hv : inR (-100000) 100000 n3 with
    | false =>
      rw [hv, if_pos (.inl rfl)] at es
      refine ite_t rfl ?_
      walk_at "go"
      exact w_retL ((ans_pure pa sb es q).go e12) rfl (by show 1 ≤ sizeLine; decide)
    | true =>
      rw [hv] at es
      refine ite_f rfl ?_
      walk_at "go"
      have fin : ¬ (n1 = 0 ∧ n2 = 0) → tSeq (sFld K (tVar 0) (tCB (rTup K) (tCons (tVar 1) tNil)) "horizon") (tRet (tLst (tCons (tC (.int 0)) tNil))) { nx := fun _ H' => Q .non H', rt := Q } (L2.start ["picture", "numbers"] [.ref a, .ref b]) H2 := by
        intro hn
        rw [if_neg (by rintro (z | z); cases z; exact hn z)] at es
        walk_at "go"
        refine w_tup3 sq fun v3 H3 e3 t3 => ?_
        have k3 : Keep a H H3 := Same.keep (e12.trans e3)
        obtain ⟨a', dx, vh, vu, vf, vt, vn, ea, h1, h2, h3, h4⟩ := (pa.same (e12.trans e3)).ex
        cases ea
        walk_at "go"
        refine w_sfldk h1 cl a1 (by show 5 < 1000; decide) put_horizon ?_
        walk_at "go"
        rw [Bool.and_eq_true] at hw
        refine ret_told es k3.upd upd_same ⟨a, dx, v3, vu, vf, vt, vn, rfl, upd_same, t3.upd h1, h3.upd h1, h4.upd h1⟩ ⟨?_, sb.u, sb.p⟩ q
        intro p e
        cases e
        refine ⟨⟨inR_B hw.1 (by decide) (by decide), inR_B hw.2 (by decide) (by decide), inR_B hv (by decide) (by decide)⟩, ?_⟩
        show n1 ≠ 0 ∨ n2 ≠ 0
        omega
      refine ite_d (fun z1 => ?_) (fun z1 => ?_)
      · walk_at "go"
        refine ite_d (fun z2 => ?_) (fun z2 => ?_)
        · rw [if_pos (.inr ⟨z1, z2⟩)] at es
          walk_at "go"
          exact w_retL ((ans_pure pa sb es q).go e12) rfl (by show 1 ≤ sizeLine; decide)
        · exact fin (fun z => z2 z.2)
      · refine ite_f rfl ?_
        exact fin (fun z => z1 z.1)
/-! answer_up -/
abbrev s_answer_up : Stmt := top 25
theorem sc_answer_up : FnScope ["picture", "numbers"] ["picture", "numbers"] (defScope s_answer_up) := ⟨rfl, rfl, rfl, by decide +kernel, rfl, by decide +kernel, by decide +kernel⟩
theorem step_up0 {st : State} {a b c : Int} : stepS st 2 [a, b, c] = (if (within 1000 a && within 1000 b && within 1 c) = false ∨ (a = 0 ∧ b = 0 ∧ c = 0) then (some st, [-22]) else (some { st with up := some (a, b, c) }, [0])) := by
  unfold stepS Kqy3Neutral.step Kqy3Neutral.callOf
  simp only [Kqy3.step]
  split <;> rfl
theorem step_up {st : State} {a b c : Int} : stepS st 2 [a, b, c] = (if (inR (-1000) 1000 a && inR (-1000) 1000 b && inR (-1) 1 c) = false ∨ (a = 0 ∧ b = 0 ∧ c = 0) then (some st, [-22]) else (some { st with up := some (a, b, c) }, [0])) := step_up0
theorem ok_answer_up (T : Txt K mg C) (d : DF K mg "answer_up" s_answer_up ["picture", "numbers"]) (c_are_within : Cal P w K mg base 1 "are_within" (sp_are_within K)) : Cal P w K mg base 2 "answer_up" (sp_ans C 2 3) := by
  refine d.cal sc_answer_up sp_ans_len (fun f cdv A outer s H vs Q E hr h => ⟨_, (pss_cons (ps_if (PW.pt (pw_or (pt_not (pt_val (pe_cal c_are_within (hr.mono (by decide)) rfl (pa_cons (pe_slice sl_list (pv 1) po_none (po_some pe_int)) (pa_cons (pe_un un_neg pe_int) (pa_cons pe_int pa_nil)))))) (pw_or1 (pt_not (pt_val (pe_cal c_are_within (hr.mono (by decide)) rfl (pa_cons (pe_slice sl_list (pv 1) (po_some pe_int) po_none) (pa_cons (pe_un un_neg pe_int) (pa_cons pe_int pa_nil))))))))) (pss_one (ps_ret (pe_lst (pa_cons (pe_const T.k_OUT_OF_RANGE rfl) pa_nil)))) pss_nil)
      (pss_cons (ps_if (pt_cmpR (op_eqD hr.units) (pe_callTy call_tupR (by rfl) T.b_tuple (by decide +kernel) (pa_cons (pv 1) pa_nil)) (pe_tup (pa_cons pe_int (pa_cons pe_int (pa_cons pe_int pa_nil)))) (nomark _)) (pss_one (ps_ret (pe_lst (pa_cons (pe_const T.k_OUT_OF_RANGE rfl) pa_nil)))) pss_nil)
      (pss_cons (ps_fld (pv 0) (pe_callTy call_tupR (by rfl) T.b_tuple (by decide +kernel) (pa_cons (pv 1) pa_nil)) rfl)
      (pss_one (ps_ret (pe_lst (pa_cons pe_int pa_nil))))))), ?_⟩)
  obtain ⟨a, b, st, ns, rfl, pa, sb, hb, hl, q⟩ := h
  match ns, hl with
  | [n1, n2, n3], _ =>
  obtain ⟨cl, a1, a2, a3, a4, a5⟩ := T.at_
  have es := step_up (st := st) (a := n1) (b := n2) (c := n3)
  have sq := SqL.of (K := K) hb
  walk_at "go"
  refine w_slL sq (ys := [n1, n2].map V.int) rfl fun p1 H1 e1 f1 g1 => ?_
  replace sq := e1.seq sq
  walk_at "go"
  refine ⟨p1, _, _, _, rfl, SqL.of g1, ?_⟩
  rw [all_two]
  walk_at "go"
  cases hw : (inR (-1000) 1000 n1 && inR (-1000) 1000 n2) with
  | false =>
    rw [hw, if_pos (.inl rfl)] at es
    refine ite_t rfl ?_
    refine ite_t rfl ?_
    walk_at "go"
    exact w_retL ((ans_pure pa sb es q).go e1) rfl (by show 1 ≤ sizeLine; decide)
  | true =>
    rw [hw] at es
    refine ite_f rfl ?_
    walk_at "go"
    refine w_slL sq (ys := [n3].map V.int) rfl fun p2 H2 e2 f2 g2 => ?_
    replace sq := e2.seq sq
    have e12 := e1.trans e2
    walk_at "go"
    refine ⟨p2, _, _, _, rfl, SqL.of g2, ?_⟩
    rw [all_one]
    walk_at "go"
    cases hv : inR (-1) 1 n3 with
    | false =>
      rw [hv, if_pos (.inl rfl)] at es
      refine ite_t rfl ?_
      walk_at "go"
      exact w_retL ((ans_pure pa sb es q).go e12) rfl (by show 1 ≤ sizeLine; decide)
    | true =>
      rw [hv] at es
      refine ite_f rfl ?_
      walk_at "go"
      refine w_tup3 sq fun v3 H3 e3 t3 => ?_
      replace sq := e3.seq sq
      walk_at "go"
      refine w_newT (by show 3 ≤ sizeLine; decide) fun p4 H4 e4 _ h4 => ?_
      replace sq := e4.seq sq
      have e14 := e12.trans (e3.trans e4)
      refine w_eqD (t3.same e4) (q := (0, 0, 0)) ⟨p4, rfl, h4⟩ ?_
      walk_at "go"
      refine ite_d (fun z => ?_) (fun z => ?_)
      · simp only [Prod.mk.injEq] at z
        rw [if_pos (.inr z)] at es
        walk_at "go"
        exact w_retL ((ans_pure pa sb es q).go e14) rfl (by show 1 ≤ sizeLine; decide)
      · simp only [Prod.mk.injEq] at z
        rw [if_neg (by rintro (y | y); cases y; exact z y)] at es
        walk_at "go"
        refine w_tup3 sq fun v5 H5 e5 t5 => ?_
        have k5 : Keep a H H5 := Same.keep (e14.trans e5)
        obtain ⟨a', dx, vh, vu, vf, vt, vn, ea, h1, h2, h3, h4⟩ := (pa.same (e14.trans e5)).ex
        cases ea
        walk_at "go"
        refine w_sfldk h1 cl a2 (by show 5 < 1000; decide) put_up ?_
        walk_at "go"
        rw [Bool.and_eq_true] at hw
        refine ret_told es k5.upd upd_same ⟨a, dx, vh, v5, vf, vt, vn, rfl, upd_same, h2.upd h1, t5.upd h1, h4.upd h1⟩ ⟨sb.l, ?_, sb.p⟩ q
        intro p e
        cases e
        exact ⟨inR_B hw.1 (by decide) (by decide), inR_B hw.2 (by decide) (by decide), inR_B hv (by decide) (by decide)⟩
/-! answer_post -/
abbrev s_answer_post : Stmt := top 26
abbrev n_answer_post : List Str := ["picture", "numbers", "points"]
theorem sc_answer_post : FnScope ["picture", "numbers", "points"] ["picture", "numbers"] (defScope s_answer_post) := ⟨rfl, rfl, rfl, by decide +kernel, rfl, by decide +kernel, by decide +kernel⟩
theorem step_post {st : State} {a b c d e : Int} : stepS st 3 [a, b, c, d, e] = (if all [a, b, c, d] = false ∨ e < 1 ∨ 1000 < e then (some st, [-22]) else (some { st with post := some (pt a b, pt c d, e) }, [0])) := by
  unfold stepS Kqy3Neutral.step Kqy3Neutral.callOf
  simp only [Kqy3.step]
  split <;> rfl
theorem ok_answer_post (T : Txt K mg C) (d : DF K mg "answer_post" s_answer_post ["picture", "numbers"]) (c_are_seen : Cal P w K mg base 2 "are_seen" (sp_are_seen K)) (c_is_height : Cal P w K mg base 2 "is_height" sp_is_height) (c_points_of : Cal P w K mg base 1 "points_of" (sp_points_of K)) : Cal P w K mg base 3 "answer_post" (sp_ans C 3 5) := by
  refine d.cal sc_answer_post sp_ans_len (fun f cdv A outer s H vs Q E hr h => ⟨_, (pss_cons (ps_if (PW.pt (pw_or (pt_not (pt_val (pe_cal c_are_seen (hr.mono (by decide)) rfl (pa_cons (pe_slice sl_list (pv 1) po_none (po_some pe_int)) pa_nil)))) (pw_or1 (pt_not (pt_val (pe_cal c_is_height (hr.mono (by decide)) rfl (pa_cons (pe_ix ix_list (pv 1) pe_int (fun _ _ => rfl)) pa_nil))))))) (pss_one (ps_ret (pe_lst (pa_cons (pe_const T.k_OUT_OF_RANGE rfl) pa_nil)))) pss_nil)
      (pss_cons (ps_set (i := 2) sc_answer_post.nd rfl (Or.inl rfl) (pe_cal c_points_of (hr.mono (by decide)) rfl (pa_cons (pe_slice sl_list (pv 1) po_none (po_some pe_int)) pa_nil)))
      (pss_cons (ps_fld (pv 0) (pe_ix ix_list (pv 2) pe_int (fun _ _ => rfl)) rfl)
      (pss_cons (ps_fld (pv 0) (pe_ix ix_list (pv 2) pe_int (fun _ _ => rfl)) rfl)
      (pss_cons (ps_fld (pv 0) (pe_ix ix_list (pv 1) pe_int (fun _ _ => rfl)) rfl)
      (pss_one (ps_ret (pe_lst (pa_cons pe_int pa_nil))))))))), ?_⟩)
  obtain ⟨a, b, st, ns, rfl, pa, sb, hb, hl, q⟩ := h
  match ns, hl with
  | [n1, n2, n3, n4, n5], _ =>
  obtain ⟨cl, a1, a2, a3, a4, a5⟩ := T.at_
  have es := step_post (st := st) (a := n1) (b := n2) (c := n3) (d := n4) (e := n5)
  simp only [height_iff] at es
  have sq := SqL.of (K := K) hb
  walk_at "go"
  refine w_slL sq (ys := [n1, n2, n3, n4].map V.int) rfl fun p1 H1 e1 f1 g1 => ?_
  replace sq := e1.seq sq
  replace hb := e1 _ _ hb
  walk_at "go"
  refine ⟨p1, _, rfl, SqL.of g1, ?_⟩
  walk_at "go"
  cases hw : all [n1, n2, n3, n4] with
  | false =>
    rw [hw, if_pos (.inl rfl)] at es
    refine ite_t rfl ?_
    refine ite_t rfl ?_
    walk_at "go"
    exact w_retL ((ans_pure pa sb es q).go e1) rfl (by show 1 ≤ sizeLine; decide)
  | true =>
    rw [hw] at es
    refine ite_f rfl ?_
    walk_at "go"
    refine ⟨_, rfl, fun H2 e2 => ?_⟩
    replace sq := e2.seq sq
    replace hb := e2 _ _ hb
    have e12 := e1.trans e2
    walk_at "go"
    cases hv : inR 1 1000 n5 with
    | false =>
      rw [hv, if_pos (.inr rfl)] at es
      refine ite_t rfl ?_
      walk_at "go"
      exact w_retL ((ans_pure pa sb es q).go e12) rfl (by show 1 ≤ sizeLine; decide)
    | true =>
      rw [hv, if_neg (by simp)] at es
      refine ite_f rfl ?_
      obtain ⟨m1, m2, m3, m4⟩ := all4 hw
      walk_at "go"
      refine w_slL sq (ys := [n1, n2, n3, n4].map V.int) rfl fun p2 G2 e2' f2 g2 => ?_
      replace sq := e2'.seq sq
      replace hb := e2' _ _ hb
      walk_at "go"
      refine ⟨p2, [n1, n2, n3, n4], 2, rfl, SqL.of g2, rfl, by decide, fun p3 H3 us e3 f3 hp3 ts => ?_⟩
      obtain ⟨v3, v4, rfl, t3, t4⟩ := pts2 ts
      have e13 := e12.trans (e2'.trans e3)
      have k3 : Keep a H H3 := Same.keep e13
      replace hb := e3 _ _ hb
      obtain ⟨a', dx, vh, vu, vf, vt, vn, ea, h1, h2, h3, h4⟩ := (pa.same e13).ex
      cases ea
      have np : p3 ≠ a := ne_of hp3 h1 (by intro z; cases z)
      have sp3 := SqL.of (K := K) hp3
      have nb : b ≠ a := ne_of hb h1 (by intro z; cases z)
      walk_at "go"
      refine w_sfldk h1 cl a3 (by show 5 < 1000; decide) put_foot ?_
      replace k3 := k3.upd (o := .ins C dx (pF vh vu v3 vt vn))
      replace t3 := t3.upd (o := .ins C dx (pF vh vu v3 vt vn)) h1
      replace t4 := t4.upd (o := .ins C dx (pF vh vu v3 vt vn)) h1
      replace h2 := h2.upd (o := .ins C dx (pF vh vu v3 vt vn)) h1
      replace h3 := h3.upd (o := .ins C dx (pF vh vu v3 vt vn)) h1
      replace hb : upd H3 a (.ins C dx (pF vh vu v3 vt vn)) b = some (.lst ([n1, n2, n3, n4, n5].map V.int)) := by
        rw [upd_ne nb]
        exact hb
      replace hp3 : upd H3 a (.ins C dx (pF vh vu v3 vt vn)) p3 = some (.lst [v3, v4]) := by
        rw [upd_ne np]
        exact hp3
      have h1' : upd H3 a (.ins C dx (pF vh vu v3 vt vn)) a = some (.ins C dx (pF vh vu v3 vt vn)) := upd_same
      clear h1 h4 sp3
      generalize upd H3 a (.ins C dx (pF vh vu v3 vt vn)) = H4 at *
      have sp3 := SqL.of (K := K) hp3
      walk_at "go"
      refine w_sfldk h1' cl a4 (by show 5 < 1000; decide) put_head ?_
      replace k3 := k3.upd (o := .ins C dx (pF vh vu v3 v4 vn))
      replace t3 := t3.upd (o := .ins C dx (pF vh vu v3 v4 vn)) h1'
      replace t4 := t4.upd (o := .ins C dx (pF vh vu v3 v4 vn)) h1'
      replace h2 := h2.upd (o := .ins C dx (pF vh vu v3 v4 vn)) h1'
      replace h3 := h3.upd (o := .ins C dx (pF vh vu v3 v4 vn)) h1'
      replace hb : upd H4 a (.ins C dx (pF vh vu v3 v4 vn)) b = some (.lst ([n1, n2, n3, n4, n5].map V.int)) := by
        rw [upd_ne nb]
        exact hb
      have h1 : upd H4 a (.ins C dx (pF vh vu v3 v4 vn)) a = some (.ins C dx (pF vh vu v3 v4 vn)) := upd_same
      clear h1'
      generalize upd H4 a (.ins C dx (pF vh vu v3 v4 vn)) = G4 at *
      have sq := SqL.of (K := K) hb
      walk_at "go"
      refine w_sfldk h1 cl a5 (by show 5 < 1000; decide) put_height ?_
      walk_at "go"
      refine ret_told es k3.upd upd_same ⟨a, dx, vh, vu, v3, v4, .int n5, rfl, upd_same, h2.upd h1, h3.upd h1, t3.upd h1, t4.upd h1, rfl⟩ ⟨sb.l, sb.u, ?_⟩ q
      intro f t n e
      cases e
      exact ⟨PB_pt m1 m2, PB_pt m3 m4, inR_B hv (by decide) (by decide), rfl, rfl, (inR_le hv).1⟩
end
end TW
namespace TW
open PySem PySem.Spec PyProof.Rows L2 Kqy3
theorem all6 {a b c d e f : Int} (h : all [a, b, c, d, e, f] = true) : small a = true ∧ small b = true ∧ small c = true ∧ small d = true ∧ small e = true ∧ small f = true := by
  unfold all at h
  simpa using h
theorem all8 {a b c d e f g i : Int} (h : all [a, b, c, d, e, f, g, i] = true) : small a = true ∧ small b = true ∧ small c = true ∧ small d = true ∧ small e = true ∧ small f = true ∧ small g = true ∧ small i = true := by
  unfold all at h
  simpa using h
theorem more_lowM {s : Scene} {f t f' t' : Pt} (o : TP.Ok s) (u : TP.Up f t s.up) (lf : dot s.l f ≠ 0) (u' : TP.Up f' t' s.up) (lf' : dot s.l f' ≠ 0) :
    more (height s f t) (height s f' t') = TP.one2 ((lowM s f t).1 * (lowM s f' t').2 - (lowM s f' t').1 * (lowM s f t).2) := by
  obtain ⟨h1, h2, h3⟩ := TP.meas_eq o u lf
  obtain ⟨k1, k2, k3⟩ := TP.meas_eq o u' lf'
  exact TP.more_one2 (x := lowM s f t) (y := lowM s f' t') (TP.low_is h1).pos (TP.low_is k1).pos h2 k2 (TP.low_frac h1 h3) (TP.low_frac k1 k3)
local macro_rules | `(tactic| walk_at "bb") => `(tactic| first | assumption | (apply B.mul <;> walk_at "bb") | (apply B.add <;> walk_at "bb") | (apply B.sub <;> walk_at "bb") | (apply B.neg; walk_at "bb"))
local macro_rules | `(tactic| walk_at "step") => `(tactic| first
  | with_reducible refine w_c ?_
  | ((with_reducible show tVar _ _ _ _); refine w_var (by exact rfl) ?_)
  | with_reducible refine w_op ?_
  | with_reducible refine w_un ?_
  | with_reducible refine w_rI0 ?_
  | with_reducible refine w_rU ?_
  | ((with_reducible show rI CMulW _ _ _ _ _); refine w_rI (by apply B.cmul <;> first | walk_at "bb" | decide) ?_)
  | ((with_reducible show rIxT _ _ _ _ _); refine w_ixT (by assumption) (by exact rfl) ?_)
  | ((with_reducible show rIxL _ _ _ _ _); refine w_ixL (by assumption) (by exact rfl) ?_)
  | with_reducible refine w_eq ?_
  | with_reducible refine w_ne ?_
  | with_reducible refine w_fld ?_
  | ((with_reducible show FldK _ _ _ _ _); refine w_fldk (by assumption) (by assumption) (by assumption) (by first | with_reducible exact pF_horizon | with_reducible exact pF_up | with_reducible exact pF_foot | with_reducible exact pF_head | with_reducible exact pF_height) ?_)
  | with_reducible refine w_cons ?_
  | with_reducible refine w_nil ?_
  | with_reducible refine w_cal ?_
  | with_reducible refine w_met ?_
  | ((with_reducible show MetK _ _ _ _ _ _ _ _); refine w_metk (by assumption) (by walk_at "nometh") ?_)
  | with_reducible refine w_tup ?_
  | with_reducible refine w_lst ?_
  | with_reducible refine w_cb ?_
  | with_reducible refine w_seq ?_
  | with_reducible refine w_asg ?_
  | with_reducible refine w_ret ?_
  | with_reducible refine w_if ?_
  | with_reducible refine w_next ?_
  | with_reducible refine w_test ?_
  | with_reducible refine w_tB ?_
  | with_reducible refine w_tstk ?_
  | with_reducible refine w_and ?_
  | with_reducible refine w_or ?_
  | with_reducible refine w_not ?_
  | with_reducible refine w_andV ?_
  | with_reducible refine w_notV ?_
  | ((with_reducible show V.non = V.non ∧ _); refine ⟨rfl, ?_⟩)
  | with_reducible refine w_notk ?_
  | with_reducible refine w_ifx ?_
  | with_reducible refine w_sl ?_
  | with_reducible refine w_noP ?_
  | with_reducible refine w_part ?_
  | with_reducible refine w_partk ?_
  | with_reducible refine w_sfld ?_)
local macro_rules | `(tactic| walk_at "go") => `(tactic| repeat walk_at "step")
local macro_rules | `(tactic| walk_at "nometh") => `(tactic| (refine (lk_past (by decide +kernel)).trans ((lk_past (by decide +kernel)).trans ((lk_past (by decide +kernel)).trans ((lk_past (by decide +kernel)).trans ((lk_past (by decide +kernel)).trans rfl))))))
section
variable {P : Program} {w : World} {K : PySem.W.Frag} {mg : Str → Option Value} {base : Heap} {C : Addr}
/-! answer_taller -/
abbrev s_answer_taller : Stmt := top 31
abbrev n_answer_taller : List Str := ["picture", "numbers", "points", "first", "second"]
theorem sc_answer_taller : FnScope ["picture", "numbers", "points", "first", "second"] ["picture", "numbers"] (defScope s_answer_taller) := ⟨rfl, rfl, rfl, by decide +kernel, rfl, by decide +kernel, by decide +kernel⟩
theorem ok_answer_taller (T : Txt K mg C) (d : DF K mg "answer_taller" s_answer_taller ["picture", "numbers"]) (c_are_seen : Cal P w K mg base 2 "are_seen" (sp_are_seen K)) (c_points_of : Cal P w K mg base 1 "points_of" (sp_points_of K)) (c_one_or_two : Cal P w K mg base 1 "one_or_two" sp_one_or_two) (c_excess : Cal P w K mg base 1 "excess" sp_excess)
    (c_is_ready : MCal P w K mg base 5 C "is_ready" (sp_is_ready C)) (c_is_standing : MCal P w K mg base 4 C "is_standing" (sp_is_standing C)) (c_measure : MCal P w K mg base 3 C "measure" (sp_measure C)) : Cal P w K mg base 6 "answer_taller" (sp_ans C 8 8) := by
  refine d.cal sc_answer_taller sp_ans_len (fun f cdv A outer s H vs Q E hr h => ⟨_, (pss_cons (ps_if (pt_not (pt_val (pe_cal c_are_seen (hr.mono (by decide)) rfl (pa_cons (pv 1) pa_nil)))) (pss_one (ps_ret (pe_lst (pa_cons (pe_const T.k_OUT_OF_RANGE rfl) pa_nil)))) pss_nil)
      (pss_cons (ps_if (pt_not (pt_val (pe_met0 c_is_ready T.cl (hr.mono (by decide)) (pv 0)))) (pss_one (ps_ret (pe_lst (pa_cons (pe_const T.k_NOT_READY rfl) pa_nil)))) pss_nil)
      (pss_cons (ps_set (i := 2) sc_answer_taller.nd rfl (Or.inl rfl) (pe_cal c_points_of (hr.mono (by decide)) rfl (pa_cons (pv 1) pa_nil)))
      (pss_cons (ps_if (PW.pt (pw_or (pt_not (pt_val (pe_met c_is_standing T.cl (hr.mono (by decide)) (pv 0) (pa_cons (pe_ix ix_list (pv 2) pe_int (fun _ _ => rfl)) (pa_cons (pe_ix ix_list (pv 2) pe_int (fun _ _ => rfl)) pa_nil))))) (pw_or1 (pt_not (pt_val (pe_met c_is_standing T.cl (hr.mono (by decide)) (pv 0) (pa_cons (pe_ix ix_list (pv 2) pe_int (fun _ _ => rfl)) (pa_cons (pe_ix ix_list (pv 2) pe_int (fun _ _ => rfl)) pa_nil)))))))) (pss_one (ps_ret (pe_lst (pa_cons (pe_const T.k_NOT_STANDING rfl) pa_nil)))) pss_nil)
      (pss_cons (ps_set (i := 3) sc_answer_taller.nd rfl (Or.inl rfl) (pe_met c_measure T.cl (hr.mono (by decide)) (pv 0) (pa_cons (pe_ix ix_list (pv 2) pe_int (fun _ _ => rfl)) (pa_cons (pe_ix ix_list (pv 2) pe_int (fun _ _ => rfl)) pa_nil))))
      (pss_cons (ps_set (i := 4) sc_answer_taller.nd rfl (Or.inl rfl) (pe_met c_measure T.cl (hr.mono (by decide)) (pv 0) (pa_cons (pe_ix ix_list (pv 2) pe_int (fun _ _ => rfl)) (pa_cons (pe_ix ix_list (pv 2) pe_int (fun _ _ => rfl)) pa_nil))))
      (pss_one (ps_ret (pe_lst (pa_cons (pe_cal c_one_or_two (hr.mono (by decide)) rfl (pa_cons (pe_cal c_excess (hr.mono (by decide)) rfl (pa_cons (pv 3) (pa_cons (pv 4) pa_nil))) pa_nil)) pa_nil)))))))))), ?_⟩)
  obtain ⟨a, b, st, ns, rfl, pa, sb, hb, hl, q⟩ := h
  match ns, hl with
  | [n1, n2, n3, n4, n5, n6, n7, n8], _ =>
  have q' := ans_pure (ans := Kqy3Neutral.tell (if all [n1, n2, n3, n4, n5, n6, n7, n8] = false then .num (-22) else needs st fun z => if stands z (pt n1 n2) (pt n3 n4) = false ∨ stands z (pt n5 n6) (pt n7 n8) = false then .num (-33) else .num (more (height z (pt n1 n2) (pt n3 n4)) (height z (pt n5 n6) (pt n7 n8))))) pa sb rfl q
  clear q
  obtain ⟨a', dx, vh, vu, vf, vt, vn, ea, h1, h2, h3, h4⟩ := pa.ex
  cases ea
  clear h2 h3 h4
  walk_at "go"
  refine ⟨b, _, rfl, SqL.of hb, ?_⟩
  walk_at "go"
  cases ha : all [n1, n2, n3, n4, n5, n6, n7, n8] with
  | false =>
    rw [ha, if_pos rfl] at q'
    refine ite_t rfl ?_
    walk_at "go"
    exact w_retL q' rfl (by show 1 ≤ sizeLine; decide)
  | true =>
    rw [ha, if_neg (by decide)] at q'
    refine ite_f rfl ?_
    obtain ⟨m1, m2, m3, m4, m5, m6, m7, m8⟩ := all8 ha
    walk_at "go"
    refine ⟨_, st, rfl, pa, sb, fun H1 e1 => ?_⟩
    replace q' := q'.go e1
    replace hb := e1 _ _ hb
    replace h1 := e1 _ _ h1
    walk_at "go"
    unfold needs at q'
    cases hz : sceneOf st with
    | none =>
      rw [hz] at q'
      refine ite_t rfl ?_
      walk_at "go"
      exact w_retL q' rfl (by show 1 ≤ sizeLine; decide)
    | some z =>
      rw [hz] at q'
      simp only at q'
      refine ite_f rfl ?_
      obtain ⟨rfl, oz⟩ := scene_some hz
      have sB := sb.sb
      have sa := pa.sc.same e1
      have sq := SqL.of (K := K) hb
      walk_at "go"
      refine ⟨b, [n1, n2, n3, n4, n5, n6, n7, n8], 4, rfl, sq, rfl, by decide, fun p2 H2 us e2 f2 hp2 ts => ?_⟩
      obtain ⟨v1, v2, v3, v4, rfl, t1, t2, t3, t4⟩ := pts4 ts
      replace q' := q'.go e2
      replace h1 := e2 _ _ h1
      replace sa := sa.same e2
      have sp2 := SqL.of (K := K) hp2
      walk_at "go"
      refine ⟨_, _, _, z, _, _, rfl, sa, sB, t1, PB_pt m1 m2, t2, PB_pt m3 m4, fun H3 e3 => ?_⟩
      replace q' := q'.go e3
      replace h1 := e3 _ _ h1
      replace sa := sa.same e3
      replace t1 := t1.same e3
      replace t2 := t2.same e3
      replace t3 := t3.same e3
      replace t4 := t4.same e3
      replace sp2 := e3.seq sp2
      walk_at "go"
      cases hs : stands z (pt n1 n2) (pt n3 n4) with
      | false =>
        rw [hs, if_pos (.inl rfl)] at q'
        refine ite_t rfl ?_
        refine ite_t rfl ?_
        walk_at "go"
        exact w_retL q' rfl (by show 1 ≤ sizeLine; decide)
      | true =>
        refine ite_f rfl ?_
        walk_at "go"
        refine ⟨_, _, _, z, _, _, rfl, sa, sB, t3, PB_pt m5 m6, t4, PB_pt m7 m8, fun H4 e4 => ?_⟩
        replace q' := q'.go e4
        replace h1 := e4 _ _ h1
        replace sa := sa.same e4
        replace t1 := t1.same e4
        replace t2 := t2.same e4
        replace t3 := t3.same e4
        replace t4 := t4.same e4
        replace sp2 := e4.seq sp2
        walk_at "go"
        cases hs' : stands z (pt n5 n6) (pt n7 n8) with
        | false =>
          rw [hs', if_pos (.inr rfl)] at q'
          refine ite_t rfl ?_
          walk_at "go"
          exact w_retL q' rfl (by show 1 ≤ sizeLine; decide)
        | true =>
          rw [hs, hs', if_neg (by simp)] at q'
          refine ite_f rfl ?_
          obtain ⟨up, lf⟩ := stands_up hs rfl rfl
          obtain ⟨up', lf'⟩ := stands_up hs' rfl rfl
          have o := ok_of sB oz
          have nz := (ratio_meas o up lf).1
          have nz' := (ratio_meas o up' lf').1
          rw [more_lowM o up lf up' lf'] at q'
          walk_at "go"
          refine ⟨_, _, _, z, _, _, rfl, sa, sB, t1, PB_pt m1 m2, t2, PB_pt m3 m4, nz, fun y5 H5 e5 t5 => ?_⟩
          replace q' := q'.go e5
          replace h1 := e5 _ _ h1
          replace sa := sa.same e5
          replace t3 := t3.same e5
          replace t4 := t4.same e5
          replace sp2 := e5.seq sp2
          walk_at "go"
          refine ⟨_, _, _, z, _, _, rfl, sa, sB, t3, PB_pt m5 m6, t4, PB_pt m7 m8, nz', fun y6 H6 e6 t6 => ?_⟩
          replace q' := q'.go e6
          have t5 : Duo H6 y5 (lowM z (pt n1 n2) (pt n3 n4)) := t5.same e6
          have t6 : Duo H6 y6 (lowM z (pt n5 n6) (pt n7 n8)) := t6
          obtain ⟨b1, b2⟩ := B_lowM sB (PB_pt m1 m2) (PB_pt m3 m4) nz
          obtain ⟨b3, b4⟩ := B_lowM sB (PB_pt m5 m6) (PB_pt m7 m8) nz'
          walk_at "go"
          refine ⟨_, _, _, _, rfl, t5, t6, b1.mono (by decide), b2.mono (by decide), b3.mono (by decide), b4.mono (by decide), ?_⟩
          walk_at "go"
          refine ⟨_, rfl, ?_⟩
          walk_at "go"
          exact w_retL q' rfl (by show 1 ≤ sizeLine; decide)
/-! answer_side -/
abbrev s_answer_side : Stmt := top 32
abbrev n_answer_side : List Str := ["picture", "numbers"]
theorem sc_answer_side : FnScope ["picture", "numbers"] ["picture", "numbers"] (defScope s_answer_side) := ⟨rfl, rfl, rfl, by decide +kernel, rfl, by decide +kernel, by decide +kernel⟩
theorem ok_answer_side (T : Txt K mg C) (d : DF K mg "answer_side" s_answer_side ["picture", "numbers"]) (c_are_seen : Cal P w K mg base 2 "are_seen" (sp_are_seen K)) (c_points_of : Cal P w K mg base 1 "points_of" (sp_points_of K)) (c_one_or_two : Cal P w K mg base 1 "one_or_two" sp_one_or_two)
    (c_is_ready : MCal P w K mg base 5 C "is_ready" (sp_is_ready C)) (c_side : MCal P w K mg base 2 C "side" (sp_side C)) : Cal P w K mg base 6 "answer_side" (sp_ans C 9 2) := by
  refine d.cal sc_answer_side sp_ans_len (fun f cdv A outer s H vs Q E hr h => ⟨_, (pss_cons (ps_if (pt_not (pt_val (pe_cal c_are_seen (hr.mono (by decide)) rfl (pa_cons (pv 1) pa_nil)))) (pss_one (ps_ret (pe_lst (pa_cons (pe_const T.k_OUT_OF_RANGE rfl) pa_nil)))) pss_nil)
      (pss_cons (ps_if (pt_not (pt_val (pe_met0 c_is_ready T.cl (hr.mono (by decide)) (pv 0)))) (pss_one (ps_ret (pe_lst (pa_cons (pe_const T.k_NOT_READY rfl) pa_nil)))) pss_nil)
      (pss_one (ps_ret (pe_lst (pa_cons (pe_cal c_one_or_two (hr.mono (by decide)) rfl (pa_cons (pe_met c_side T.cl (hr.mono (by decide)) (pv 0) (pa_cons (pe_ix ix_list (pe_cal c_points_of (hr.mono (by decide)) rfl (pa_cons (pv 1) pa_nil)) pe_int (fun _ _ => rfl)) pa_nil)) pa_nil)) pa_nil)))))), ?_⟩)
  obtain ⟨a, b, st, ns, rfl, pa, sb, hb, hl, q⟩ := h
  match ns, hl with
  | [n1, n2], _ =>
  have q' := ans_pure (ans := Kqy3Neutral.tell (if all [n1, n2] = false then .num (-22) else needs st fun z => .num (if dot z.l (pt n1 n2) = 0 then 0 else if 0 < dot z.l (pt n1 n2) * dot z.l z.foot then 1 else 2))) pa sb rfl q
  clear q
  obtain ⟨a', dx, vh, vu, vf, vt, vn, ea, h1, h2, h3, h4⟩ := pa.ex
  cases ea
  clear h2 h3 h4
  walk_at "go"
  refine ⟨b, _, rfl, SqL.of hb, ?_⟩
  walk_at "go"
  cases ha : all [n1, n2] with
  | false =>
    rw [ha, if_pos rfl] at q'
    refine ite_t rfl ?_
    walk_at "go"
    exact w_retL q' rfl (by show 1 ≤ sizeLine; decide)
  | true =>
    rw [ha, if_neg (by decide)] at q'
    refine ite_f rfl ?_
    obtain ⟨m1, m2⟩ := all2 ha
    walk_at "go"
    refine ⟨_, st, rfl, pa, sb, fun H1 e1 => ?_⟩
    replace q' := q'.go e1
    replace hb := e1 _ _ hb
    replace h1 := e1 _ _ h1
    walk_at "go"
    unfold needs at q'
    cases hz : sceneOf st with
    | none =>
      rw [hz] at q'
      refine ite_t rfl ?_
      walk_at "go"
      exact w_retL q' rfl (by show 1 ≤ sizeLine; decide)
    | some z =>
      rw [hz] at q'
      simp only at q'
      refine ite_f rfl ?_
      obtain ⟨rfl, oz⟩ := scene_some hz
      have sB := sb.sb
      have sa := pa.sc.same e1
      have sq := SqL.of (K := K) hb
      rw [TP.side_one2 (ok_of sB oz).lf] at q'
      walk_at "go"
      refine ⟨b, [n1, n2], 1, rfl, sq, rfl, by decide, fun p2 H2 us e2 f2 hp2 ts => ?_⟩
      obtain ⟨v1, rfl, t1⟩ := pts1 ts
      replace q' := q'.go e2
      replace h1 := e2 _ _ h1
      replace sa := sa.same e2
      have sp2 := SqL.of (K := K) hp2
      walk_at "go"
      refine ⟨_, _, z, _, rfl, sa, sB, t1, PB_pt m1 m2, ?_⟩
      walk_at "go"
      refine ⟨_, rfl, ?_⟩
      walk_at "go"
      exact w_retL q' rfl (by show 1 ≤ sizeLine; decide)
end
end TW
namespace TW
open PySem PySem.Spec PyProof.Rows L2 Kqy3
theorem told_like {s : Scene} {f t g : Pt} (o : TP.Ok s) (u : TP.Up f t s.up) (lf : dot s.l f ≠ 0) : toldP (TP.headP s g (lowM s f t).1 (lowM s f t).2) = Kqy3Neutral.tell (orElse (place (headOf s g (height s f t).1 (height s f t).2)) (-6)) := by
  obtain ⟨h1, h2, h3⟩ := TP.meas_eq o u lf
  have p := (TP.low_is (a := (TP.measP s f t).1) h1).pos
  unfold toldP
  rw [TP.head_eq (p := (lowM s f t).1) (q := (lowM s f t).2) (p' := (height s f t).1) (q' := (height s f t).2) o (by show (TP.low _ _).2 ≠ 0; omega) h2 (TP.low_frac h1 h3)]
local macro_rules | `(tactic| walk_at "bb") => `(tactic| first | assumption | (apply B.mul <;> walk_at "bb") | (apply B.add <;> walk_at "bb") | (apply B.sub <;> walk_at "bb") | (apply B.neg; walk_at "bb"))
local macro_rules | `(tactic| walk_at "step") => `(tactic| first
  | with_reducible refine w_c ?_
  | ((with_reducible show tVar _ _ _ _); refine w_var (by exact rfl) ?_)
  | with_reducible refine w_op ?_
  | with_reducible refine w_un ?_
  | with_reducible refine w_rI0 ?_
  | with_reducible refine w_rU ?_
  | ((with_reducible show rI CMulW _ _ _ _ _); refine w_rI (by apply B.cmul <;> first | walk_at "bb" | decide) ?_)
  | ((with_reducible show rIxT _ _ _ _ _); refine w_ixT (by assumption) (by exact rfl) ?_)
  | ((with_reducible show rIxL _ _ _ _ _); refine w_ixL (by assumption) (by exact rfl) ?_)
  | with_reducible refine w_eq ?_
  | with_reducible refine w_ne ?_
  | with_reducible refine w_fld ?_
  | ((with_reducible show FldK _ _ _ _ _); refine w_fldk (by assumption) (by assumption) (by assumption) (by first | with_reducible exact pF_horizon | with_reducible exact pF_up | with_reducible exact pF_foot | with_reducible exact pF_head | with_reducible exact pF_height) ?_)
  | with_reducible refine w_cons ?_
  | with_reducible refine w_nil ?_
  | with_reducible refine w_cal ?_
  | with_reducible refine w_met ?_
  | ((with_reducible show MetK _ _ _ _ _ _ _ _); refine w_metk (by assumption) (by walk_at "nometh") ?_)
  | with_reducible refine w_tup ?_
  | with_reducible refine w_lst ?_
  | with_reducible refine w_cb ?_
  | with_reducible refine w_seq ?_
  | with_reducible refine w_asg ?_
  | with_reducible refine w_ret ?_
  | with_reducible refine w_if ?_
  | with_reducible refine w_next ?_
  | with_reducible refine w_test ?_
  | with_reducible refine w_tB ?_
  | with_reducible refine w_tstk ?_
  | with_reducible refine w_and ?_
  | with_reducible refine w_or ?_
  | with_reducible refine w_not ?_
  | with_reducible refine w_andV ?_
  | with_reducible refine w_notV ?_
  | ((with_reducible show V.non = V.non ∧ _); refine ⟨rfl, ?_⟩)
  | with_reducible refine w_notk ?_
  | with_reducible refine w_ifx ?_
  | with_reducible refine w_sl ?_
  | with_reducible refine w_noP ?_
  | with_reducible refine w_part ?_
  | with_reducible refine w_partk ?_
  | with_reducible refine w_sfld ?_)
local macro_rules | `(tactic| walk_at "go") => `(tactic| repeat walk_at "step")
local macro_rules | `(tactic| walk_at "nometh") => `(tactic| (refine (lk_past (by decide +kernel)).trans ((lk_past (by decide +kernel)).trans ((lk_past (by decide +kernel)).trans ((lk_past (by decide +kernel)).trans ((lk_past (by decide +kernel)).trans rfl))))))
section
variable {P : Program} {w : World} {K : PySem.W.Frag} {mg : Str → Option Value} {base : Heap} {C : Addr}
/-! answer_like -/
abbrev s_answer_like : Stmt := top 33
abbrev n_answer_like : List Str := ["picture", "numbers", "points", "height"]
theorem sc_answer_like : FnScope ["picture", "numbers", "points", "height"] ["picture", "numbers"] (defScope s_answer_like) := ⟨rfl, rfl, rfl, by decide +kernel, rfl, by decide +kernel, by decide +kernel⟩
theorem ok_answer_like (T : Txt K mg C) (d : DF K mg "answer_like" s_answer_like ["picture", "numbers"]) (c_are_seen : Cal P w K mg base 2 "are_seen" (sp_are_seen K)) (c_points_of : Cal P w K mg base 1 "points_of" (sp_points_of K)) (c_tell_place : Cal P w K mg base 3 "tell_place" sp_tell_place)
    (c_is_ready : MCal P w K mg base 5 C "is_ready" (sp_is_ready C)) (c_can_bear : MCal P w K mg base 3 C "can_bear" (sp_can_bear C)) (c_is_standing : MCal P w K mg base 4 C "is_standing" (sp_is_standing C)) (c_measure : MCal P w K mg base 3 C "measure" (sp_measure C)) (c_place_head : MCal P w K mg base 3 C "place_head" (sp_place_head C)) :
    Cal P w K mg base 6 "answer_like" (sp_ans C 10 6) := by
  refine d.cal sc_answer_like sp_ans_len (fun f cdv A outer s H vs Q E hr h => ⟨_, (pss_cons (ps_if (pt_not (pt_val (pe_cal c_are_seen (hr.mono (by decide)) rfl (pa_cons (pv 1) pa_nil)))) (pss_one (ps_ret (pe_lst (pa_cons (pe_const T.k_OUT_OF_RANGE rfl) pa_nil)))) pss_nil)
      (pss_cons (ps_if (pt_not (pt_val (pe_met0 c_is_ready T.cl (hr.mono (by decide)) (pv 0)))) (pss_one (ps_ret (pe_lst (pa_cons (pe_const T.k_NOT_READY rfl) pa_nil)))) pss_nil)
      (pss_cons (ps_set (i := 2) sc_answer_like.nd rfl (Or.inl rfl) (pe_cal c_points_of (hr.mono (by decide)) rfl (pa_cons (pv 1) pa_nil)))
      (pss_cons (ps_if (PW.pt (pw_or (pt_not (pt_val (pe_met c_is_standing T.cl (hr.mono (by decide)) (pv 0) (pa_cons (pe_ix ix_list (pv 2) pe_int (fun _ _ => rfl)) (pa_cons (pe_ix ix_list (pv 2) pe_int (fun _ _ => rfl)) pa_nil))))) (pw_or1 (pt_not (pt_val (pe_met c_can_bear T.cl (hr.mono (by decide)) (pv 0) (pa_cons (pe_ix ix_list (pv 2) pe_int (fun _ _ => rfl)) pa_nil))))))) (pss_one (ps_ret (pe_lst (pa_cons (pe_const T.k_NOT_STANDING rfl) pa_nil)))) pss_nil)
      (pss_cons (ps_set (i := 3) sc_answer_like.nd rfl (Or.inl rfl) (pe_met c_measure T.cl (hr.mono (by decide)) (pv 0) (pa_cons (pe_ix ix_list (pv 2) pe_int (fun _ _ => rfl)) (pa_cons (pe_ix ix_list (pv 2) pe_int (fun _ _ => rfl)) pa_nil))))
      (pss_one (ps_ret (pe_cal c_tell_place (hr.mono (by decide)) rfl (pa_cons (pe_met c_place_head T.cl (hr.mono (by decide)) (pv 0) (pa_cons (pe_ix ix_list (pv 2) pe_int (fun _ _ => rfl)) (pa_cons (pe_ix ix_tup (pv 3) pe_int (fun _ _ => rfl)) (pa_cons (pe_ix ix_tup (pv 3) pe_int (fun _ _ => rfl)) pa_nil)))) pa_nil))))))))), ?_⟩)
  obtain ⟨a, b, st, ns, rfl, pa, sb, hb, hl, q⟩ := h
  match ns, hl with
  | [n1, n2, n3, n4, n5, n6], _ =>
  have q' := ans_pure (ans := Kqy3Neutral.tell (if all [n1, n2, n3, n4, n5, n6] = false then .num (-22) else needs st fun z => if stands z (pt n1 n2) (pt n3 n4) = false ∨ dot z.l (pt n5 n6) = 0 ∨ alike (pt n5 n6) z.up = true then .num (-33) else orElse (place (headOf z (pt n5 n6) (height z (pt n1 n2) (pt n3 n4)).1 (height z (pt n1 n2) (pt n3 n4)).2)) (-6))) pa sb rfl q
  clear q
  obtain ⟨a', dx, vh, vu, vf, vt, vn, ea, h1, h2, h3, h4⟩ := pa.ex
  cases ea
  clear h2 h3 h4
  simp only [bear_iff] at q'
  walk_at "go"
  refine ⟨b, _, rfl, SqL.of hb, ?_⟩
  walk_at "go"
  cases ha : all [n1, n2, n3, n4, n5, n6] with
  | false =>
    rw [ha, if_pos rfl] at q'
    refine ite_t rfl ?_
    walk_at "go"
    exact w_retL q' rfl (by show 1 ≤ sizeLine; decide)
  | true =>
    rw [ha, if_neg (by decide)] at q'
    refine ite_f rfl ?_
    obtain ⟨m1, m2, m3, m4, m5, m6⟩ := all6 ha
    walk_at "go"
    refine ⟨_, st, rfl, pa, sb, fun H1 e1 => ?_⟩
    replace q' := q'.go e1
    replace hb := e1 _ _ hb
    replace h1 := e1 _ _ h1
    walk_at "go"
    unfold needs at q'
    cases hz : sceneOf st with
    | none =>
      rw [hz] at q'
      refine ite_t rfl ?_
      walk_at "go"
      exact w_retL q' rfl (by show 1 ≤ sizeLine; decide)
    | some z =>
      rw [hz] at q'
      simp only at q'
      refine ite_f rfl ?_
      obtain ⟨rfl, oz⟩ := scene_some hz
      have sB := sb.sb
      have sa := pa.sc.same e1
      have sq := SqL.of (K := K) hb
      walk_at "go"
      refine ⟨b, [n1, n2, n3, n4, n5, n6], 3, rfl, sq, rfl, by decide, fun p2 H2 us e2 f2 hp2 ts => ?_⟩
      obtain ⟨v1, v2, v3, rfl, t1, t2, t3⟩ := pts3 ts
      replace q' := q'.go e2
      replace h1 := e2 _ _ h1
      replace sa := sa.same e2
      have sp2 := SqL.of (K := K) hp2
      walk_at "go"
      refine ⟨_, _, _, z, _, _, rfl, sa, sB, t1, PB_pt m1 m2, t2, PB_pt m3 m4, fun H3 e3 => ?_⟩
      replace q' := q'.go e3
      replace h1 := e3 _ _ h1
      replace sa := sa.same e3
      replace t1 := t1.same e3
      replace t2 := t2.same e3
      replace t3 := t3.same e3
      replace sp2 := e3.seq sp2
      walk_at "go"
      cases hs : stands z (pt n1 n2) (pt n3 n4) with
      | false =>
        rw [hs, if_pos (.inl rfl)] at q'
        refine ite_t rfl ?_
        refine ite_t rfl ?_
        walk_at "go"
        exact w_retL q' rfl (by show 1 ≤ sizeLine; decide)
      | true =>
        refine ite_f rfl ?_
        walk_at "go"
        refine ⟨_, _, z, _, rfl, sa, sB, t3, PB_pt m5 m6, fun H4 e4 => ?_⟩
        replace q' := q'.go e4
        replace h1 := e4 _ _ h1
        replace sa := sa.same e4
        replace t1 := t1.same e4
        replace t2 := t2.same e4
        replace t3 := t3.same e4
        replace sp2 := e4.seq sp2
        walk_at "go"
        cases hs' : bear z (pt n5 n6) with
        | false =>
          rw [hs', if_pos (.inr rfl)] at q'
          refine ite_t rfl ?_
          walk_at "go"
          exact w_retL q' rfl (by show 1 ≤ sizeLine; decide)
        | true =>
          rw [hs, hs', if_neg (by simp)] at q'
          refine ite_f rfl ?_
          obtain ⟨up, lf⟩ := stands_up hs rfl rfl
          have o := ok_of sB oz
          have nz := (ratio_meas o up lf).1
          rw [← told_like o up lf] at q'
          walk_at "go"
          refine ⟨_, _, _, z, _, _, rfl, sa, sB, t1, PB_pt m1 m2, t2, PB_pt m3 m4, nz, fun y5 H5 e5 t5 => ?_⟩
          replace q' := q'.go e5
          replace h1 := e5 _ _ h1
          replace sa := sa.same e5
          replace t3 := t3.same e5
          replace sp2 := e5.seq sp2
          have t5 : Duo H5 y5 (lowM z (pt n1 n2) (pt n3 n4)) := t5
          obtain ⟨a5, rfl, h5⟩ := t5.ex
          obtain ⟨b1, b2⟩ := B_lowM sB (PB_pt m1 m2) (PB_pt m3 m4) nz
          replace b1 : B 300 (lowM z (pt n1 n2) (pt n3 n4)).1 := b1.mono (by decide)
          replace b2 : B 300 (lowM z (pt n1 n2) (pt n3 n4)).2 := b2.mono (by decide)
          walk_at "go"
          refine ⟨_, _, z, _, _, _, rfl, sa, sB, t3, PB_pt m5 m6, b1, b2, fun y6 H6 e6 t6 => ?_⟩
          replace q' := q'.go e6
          walk_at "go"
          exact ⟨_, _, rfl, t6, PB_head sB (PB_pt m5 m6) b1 b2, q'⟩
/-! answer_rule -/
theorem same_iff {u v a b : Int} : (u = a ∧ v = b) ↔ alike (pt u v) (pt a b) = true := TP.alike_pt.symm
abbrev s_answer_rule : Stmt := top 34
abbrev n_answer_rule : List Str := ["picture", "numbers", "points"]
theorem sc_answer_rule : FnScope ["picture", "numbers", "points"] ["picture", "numbers"] (defScope s_answer_rule) := ⟨rfl, rfl, rfl, by decide +kernel, rfl, by decide +kernel, by decide +kernel⟩
theorem ok_answer_rule (T : Txt K mg C) (d : DF K mg "answer_rule" s_answer_rule ["picture", "numbers"]) (c_are_seen : Cal P w K mg base 2 "are_seen" (sp_are_seen K)) (c_is_height : Cal P w K mg base 2 "is_height" sp_is_height) (c_points_of : Cal P w K mg base 1 "points_of" (sp_points_of K)) (c_is_same : Cal P w K mg base 2 "is_same" sp_is_same)
    (c_is_ready : MCal P w K mg base 5 C "is_ready" (sp_is_ready C)) (c_is_standing : MCal P w K mg base 4 C "is_standing" (sp_is_standing C)) (c_post_height_by : MCal P w K mg base 4 C "post_height_by" (sp_post_height_by C)) : Cal P w K mg base 6 "answer_rule" (sp_ans C 11 5) := by
  refine d.cal sc_answer_rule sp_ans_len (fun f cdv A outer s H vs Q E hr h => ⟨_, (pss_cons (ps_if (PW.pt (pw_or (pt_not (pt_val (pe_cal c_are_seen (hr.mono (by decide)) rfl (pa_cons (pe_slice sl_list (pv 1) po_none (po_some pe_int)) pa_nil)))) (pw_or1 (pt_not (pt_val (pe_cal c_is_height (hr.mono (by decide)) rfl (pa_cons (pe_ix ix_list (pv 1) pe_int (fun _ _ => rfl)) pa_nil))))))) (pss_one (ps_ret (pe_lst (pa_cons (pe_const T.k_OUT_OF_RANGE rfl) pa_nil)))) pss_nil)
      (pss_cons (ps_if (pt_not (pt_val (pe_met0 c_is_ready T.cl (hr.mono (by decide)) (pv 0)))) (pss_one (ps_ret (pe_lst (pa_cons (pe_const T.k_NOT_READY rfl) pa_nil)))) pss_nil)
      (pss_cons (ps_set (i := 2) sc_answer_rule.nd rfl (Or.inl rfl) (pe_cal c_points_of (hr.mono (by decide)) rfl (pa_cons (pe_slice sl_list (pv 1) po_none (po_some pe_int)) pa_nil)))
      (pss_cons (ps_if (PW.pt (pw_or (pt_not (pt_val (pe_met c_is_standing T.cl (hr.mono (by decide)) (pv 0) (pa_cons (pe_ix ix_list (pv 2) pe_int (fun _ _ => rfl)) (pa_cons (pe_ix ix_list (pv 2) pe_int (fun _ _ => rfl)) pa_nil))))) (pw_or1 (pt_val (pe_cal c_is_same (hr.mono (by decide)) rfl (pa_cons (pe_ix ix_list (pv 2) pe_int (fun _ _ => rfl)) (pa_cons (pe_ix ix_list (pv 2) pe_int (fun _ _ => rfl)) pa_nil))))))) (pss_one (ps_ret (pe_lst (pa_cons (pe_const T.k_NOT_STANDING rfl) pa_nil)))) pss_nil)
      (pss_one (ps_ret (pe_op op_cat (pe_lst (pa_cons pe_int pa_nil)) (pe_callTy call_lstR (by rfl) T.b_list (by decide +kernel) (pa_cons (pe_met c_post_height_by T.cl (hr.mono (by decide)) (pv 0) (pa_cons (pe_ix ix_list (pv 2) pe_int (fun _ _ => rfl)) (pa_cons (pe_ix ix_list (pv 2) pe_int (fun _ _ => rfl)) (pa_cons (pe_ix ix_list (pv 1) pe_int (fun _ _ => rfl)) pa_nil)))) pa_nil))))))))), ?_⟩)
  obtain ⟨a, b, st, ns, rfl, pa, sb, hb, hl, q⟩ := h
  match ns, hl with
  | [n1, n2, n3, n4, n5], _ =>
  have q' := ans_pure (ans := Kqy3Neutral.tell (if all [n1, n2, n3, n4] = false ∨ n5 < 1 ∨ 1000 < n5 then .num (-22) else needs st fun z => if stands z (pt n1 n2) (pt n3 n4) = false ∨ (n1 = n3 ∧ n2 = n4) then .num (-33) else .some_ 0 (ratio (height ⟨z.l, z.up, pt n1 n2, pt n3 n4, n5⟩ z.foot z.head)))) pa sb rfl q
  clear q
  obtain ⟨a', dx, vh, vu, vf, vt, vn, ea, h1, h2, h3, h4⟩ := pa.ex
  cases ea
  clear h2 h3 h4
  simp only [height_iff, same_iff] at q'
  have sq := SqL.of (K := K) hb
  walk_at "go"
  refine w_slL sq (ys := [n1, n2, n3, n4].map V.int) rfl fun p1 H1 e1 f1 g1 => ?_
  replace q' := q'.go e1
  replace h1 := e1 _ _ h1
  replace sq := e1.seq sq
  replace pa := pa.same e1
  walk_at "go"
  refine ⟨p1, _, rfl, SqL.of g1, ?_⟩
  walk_at "go"
  cases ha : all [n1, n2, n3, n4] with
  | false =>
    rw [ha, if_pos (.inl rfl)] at q'
    refine ite_t rfl ?_
    refine ite_t rfl ?_
    walk_at "go"
    exact w_retL q' rfl (by show 1 ≤ sizeLine; decide)
  | true =>
    rw [ha] at q'
    refine ite_f rfl ?_
    obtain ⟨m1, m2, m3, m4⟩ := all4 ha
    walk_at "go"
    refine ⟨_, rfl, fun H2 e2 => ?_⟩
    replace q' := q'.go e2
    replace h1 := e2 _ _ h1
    replace sq := e2.seq sq
    replace pa := pa.same e2
    walk_at "go"
    cases hv : inR 1 1000 n5 with
    | false =>
      rw [hv, if_pos (.inr rfl)] at q'
      refine ite_t rfl ?_
      walk_at "go"
      exact w_retL q' rfl (by show 1 ≤ sizeLine; decide)
    | true =>
      rw [hv, if_neg (by simp)] at q'
      refine ite_f rfl ?_
      walk_at "go"
      refine ⟨_, st, rfl, pa, sb, fun H3 e3 => ?_⟩
      replace q' := q'.go e3
      replace h1 := e3 _ _ h1
      replace sq := e3.seq sq
      walk_at "go"
      unfold needs at q'
      cases hz : sceneOf st with
      | none =>
        rw [hz] at q'
        refine ite_t rfl ?_
        walk_at "go"
        exact w_retL q' rfl (by show 1 ≤ sizeLine; decide)
      | some z =>
        rw [hz] at q'
        simp only at q'
        refine ite_f rfl ?_
        obtain ⟨rfl, oz⟩ := scene_some hz
        have sB := sb.sb
        have sa := pa.sc.same e3
        walk_at "go"
        refine w_slL sq (ys := [n1, n2, n3, n4].map V.int) rfl fun p4 H4 e4 f4 g4 => ?_
        replace q' := q'.go e4
        replace h1 := e4 _ _ h1
        replace sq := e4.seq sq
        replace sa := sa.same e4
        walk_at "go"
        refine ⟨p4, [n1, n2, n3, n4], 2, rfl, SqL.of g4, rfl, by decide, fun p5 H5 us e5 f5 hp5 ts => ?_⟩
        obtain ⟨v1, v2, rfl, t1, t2⟩ := pts2 ts
        replace q' := q'.go e5
        replace h1 := e5 _ _ h1
        replace sq := e5.seq sq
        replace sa := sa.same e5
        have sp5 := SqL.of (K := K) hp5
        walk_at "go"
        refine ⟨_, _, _, z, _, _, rfl, sa, sB, t1, PB_pt m1 m2, t2, PB_pt m3 m4, fun H6 e6 => ?_⟩
        replace q' := q'.go e6
        replace h1 := e6 _ _ h1
        replace sq := e6.seq sq
        replace sa := sa.same e6
        replace t1 := t1.same e6
        replace t2 := t2.same e6
        replace sp5 := e6.seq sp5
        walk_at "go"
        cases hs : stands z (pt n1 n2) (pt n3 n4) with
        | false =>
          rw [hs, if_pos (.inl rfl)] at q'
          refine ite_t rfl ?_
          refine ite_t rfl ?_
          walk_at "go"
          exact w_retL q' rfl (by show 1 ≤ sizeLine; decide)
        | true =>
          refine ite_f rfl ?_
          walk_at "go"
          refine ⟨_, _, _, _, rfl, t1, t2, (PB_pt m1 m2).up, (PB_pt m3 m4).up, fun H7 e7 => ?_⟩
          replace q' := q'.go e7
          replace h1 := e7 _ _ h1
          replace sq := e7.seq sq
          replace sa := sa.same e7
          replace t1 := t1.same e7
          replace t2 := t2.same e7
          replace sp5 := e7.seq sp5
          walk_at "go"
          cases hk : alike (pt n1 n2) (pt n3 n4) with
          | true =>
            rw [hk, if_pos (.inr rfl)] at q'
            refine ite_t rfl ?_
            walk_at "go"
            exact w_retL q' rfl (by show 1 ≤ sizeLine; decide)
          | false =>
            rw [hs, hk, if_neg (by simp)] at q'
            refine ite_f rfl ?_
            obtain ⟨up, lf⟩ := stands_up hs rfl rfl
            have o := ok_of sB oz
            have nz := (ratio_meas o up lf).1
            obtain ⟨ln, er⟩ := TP.rule_eq (n := n5) o up lf hk
            rw [er] at q'
            walk_at "go"
            refine w_newL (by show 1 ≤ sizeLine; decide) fun a8 H8 e8 n8 h8 => ?_
            replace h1 := e8 _ _ h1
            replace sq := e8.seq sq
            replace sp5 := e8.seq sp5
            walk_at "go"
            refine ⟨_, _, _, z, _, _, n5, rfl, sa.same e8, sB, t1.same e8, PB_pt m1 m2, t2.same e8, PB_pt m3 m4, inR_B hv (by decide) (by decide), nz, ln, fun y9 H9 e9 t9 => ?_⟩
            walk_at "go"
            refine w_list2 t9 fun a10 H10 e10 n10 h10 => ?_
            exact w_cat (xs := [0]) ((e9.trans e10) _ _ h8) h10 (by show 3 ≤ 1000; decide) (q'.go (e8.trans (e9.trans e10)))
end
end TW
namespace TW
open PySem PySem.Spec PyProof.Rows L2 Kqy3
local macro_rules | `(tactic| walk_at "bb") => `(tactic| first | assumption | (apply B.mul <;> walk_at "bb") | (apply B.add <;> walk_at "bb") | (apply B.sub <;> walk_at "bb") | (apply B.neg; walk_at "bb"))
local macro_rules | `(tactic| walk_at "step") => `(tactic| first
  | with_reducible refine w_c ?_
  | ((with_reducible show tVar _ _ _ _); refine w_var (by exact rfl) ?_)
  | with_reducible refine w_op ?_
  | with_reducible refine w_un ?_
  | with_reducible refine w_rI0 ?_
  | with_reducible refine w_rU ?_
  | ((with_reducible show rI CMulW _ _ _ _ _); refine w_rI (by apply B.cmul <;> first | walk_at "bb" | decide) ?_)
  | ((with_reducible show rIxT _ _ _ _ _); refine w_ixT (by assumption) (by exact rfl) ?_)
  | ((with_reducible show rIxL _ _ _ _ _); refine w_ixL (by assumption) (by exact rfl) ?_)
  | with_reducible refine w_eq ?_
  | with_reducible refine w_ne ?_
  | with_reducible refine w_fld ?_
  | ((with_reducible show FldK _ _ _ _ _); refine w_fldk (by assumption) (by assumption) (by assumption) (by first | with_reducible exact pF_horizon | with_reducible exact pF_up | with_reducible exact pF_foot | with_reducible exact pF_head | with_reducible exact pF_height) ?_)
  | with_reducible refine w_cons ?_
  | with_reducible refine w_nil ?_
  | with_reducible refine w_cal ?_
  | with_reducible refine w_met ?_
  | ((with_reducible show MetK _ _ _ _ _ _ _ _); refine w_metk (by assumption) (by walk_at "nometh") ?_)
  | with_reducible refine w_tup ?_
  | with_reducible refine w_lst ?_
  | with_reducible refine w_cb ?_
  | with_reducible refine w_seq ?_
  | with_reducible refine w_asg ?_
  | with_reducible refine w_ret ?_
  | with_reducible refine w_if ?_
  | with_reducible refine w_next ?_
  | with_reducible refine w_test ?_
  | with_reducible refine w_tB ?_
  | with_reducible refine w_tstk ?_
  | with_reducible refine w_and ?_
  | with_reducible refine w_or ?_
  | with_reducible refine w_not ?_
  | with_reducible refine w_andV ?_
  | with_reducible refine w_notV ?_
  | ((with_reducible show V.non = V.non ∧ _); refine ⟨rfl, ?_⟩)
  | with_reducible refine w_notk ?_
  | with_reducible refine w_ifx ?_
  | with_reducible refine w_sl ?_
  | with_reducible refine w_noP ?_
  | with_reducible refine w_part ?_
  | with_reducible refine w_partk ?_
  | with_reducible refine w_sfld ?_)
local macro_rules | `(tactic| walk_at "go") => `(tactic| repeat walk_at "step")
local macro_rules | `(tactic| walk_at "nometh") => `(tactic| (refine (lk_past (by decide +kernel)).trans ((lk_past (by decide +kernel)).trans ((lk_past (by decide +kernel)).trans ((lk_past (by decide +kernel)).trans ((lk_past (by decide +kernel)).trans rfl))))))
section
variable {P : Program} {w : World} {K : PySem.W.Frag} {mg : Str → Option Value} {base : Heap} {C : Addr}
/-! answer_stands -/
abbrev s_answer_stands : Stmt := top 35
abbrev n_answer_stands : List Str := ["picture", "numbers", "points"]
theorem sc_answer_stands : FnScope ["picture", "numbers", "points"] ["picture", "numbers"] (defScope s_answer_stands) := ⟨rfl, rfl, rfl, by decide +kernel, rfl, by decide +kernel, by decide +kernel⟩
theorem ok_answer_stands (T : Txt K mg C) (d : DF K mg "answer_stands" s_answer_stands ["picture", "numbers"]) (c_are_seen : Cal P w K mg base 2 "are_seen" (sp_are_seen K)) (c_points_of : Cal P w K mg base 1 "points_of" (sp_points_of K)) (c_one_if : Cal P w K mg base 1 "one_if" sp_one_if)
    (c_is_ready : MCal P w K mg base 5 C "is_ready" (sp_is_ready C)) (c_is_standing : MCal P w K mg base 4 C "is_standing" (sp_is_standing C)) : Cal P w K mg base 6 "answer_stands" (sp_ans C 12 4) := by
  refine d.cal sc_answer_stands sp_ans_len (fun f cdv A outer s H vs Q E hr h => ⟨_, (pss_cons (ps_if (pt_not (pt_val (pe_cal c_are_seen (hr.mono (by decide)) rfl (pa_cons (pv 1) pa_nil)))) (pss_one (ps_ret (pe_lst (pa_cons (pe_const T.k_OUT_OF_RANGE rfl) pa_nil)))) pss_nil)
      (pss_cons (ps_if (pt_not (pt_val (pe_met0 c_is_ready T.cl (hr.mono (by decide)) (pv 0)))) (pss_one (ps_ret (pe_lst (pa_cons (pe_const T.k_NOT_READY rfl) pa_nil)))) pss_nil)
      (pss_cons (ps_set (i := 2) sc_answer_stands.nd rfl (Or.inl rfl) (pe_cal c_points_of (hr.mono (by decide)) rfl (pa_cons (pv 1) pa_nil)))
      (pss_one (ps_ret (pe_lst (pa_cons (pe_cal c_one_if (hr.mono (by decide)) rfl (pa_cons (pe_met c_is_standing T.cl (hr.mono (by decide)) (pv 0) (pa_cons (pe_ix ix_list (pv 2) pe_int (fun _ _ => rfl)) (pa_cons (pe_ix ix_list (pv 2) pe_int (fun _ _ => rfl)) pa_nil))) pa_nil)) pa_nil))))))), ?_⟩)
  obtain ⟨a, b, st, ns, rfl, pa, sb, hb, hl, q⟩ := h
  match ns, hl with
  | [n1, n2, n3, n4], _ =>
  have q' := ans_pure (ans := Kqy3Neutral.tell (if all [n1, n2, n3, n4] = false then .num (-22) else needs st fun z => .num (if stands z (pt n1 n2) (pt n3 n4) then 1 else 0))) pa sb rfl q
  clear q
  obtain ⟨a', dx, vh, vu, vf, vt, vn, ea, h1, h2, h3, h4⟩ := pa.ex
  cases ea
  clear h2 h3 h4
  walk_at "go"
  refine ⟨b, _, rfl, SqL.of hb, ?_⟩
  walk_at "go"
  cases ha : all [n1, n2, n3, n4] with
  | false =>
    rw [ha, if_pos rfl] at q'
    refine ite_t rfl ?_
    walk_at "go"
    exact w_retL q' rfl (by show 1 ≤ sizeLine; decide)
  | true =>
    rw [ha, if_neg (by decide)] at q'
    refine ite_f rfl ?_
    obtain ⟨m1, m2, m3, m4⟩ := all4 ha
    walk_at "go"
    refine ⟨_, st, rfl, pa, sb, fun H1 e1 => ?_⟩
    replace q' := q'.go e1
    replace hb := e1 _ _ hb
    replace h1 := e1 _ _ h1
    walk_at "go"
    unfold needs at q'
    cases hz : sceneOf st with
    | none =>
      rw [hz] at q'
      refine ite_t rfl ?_
      walk_at "go"
      exact w_retL q' rfl (by show 1 ≤ sizeLine; decide)
    | some z =>
      rw [hz] at q'
      simp only at q'
      refine ite_f rfl ?_
      obtain ⟨rfl, oz⟩ := scene_some hz
      have sB := sb.sb
      have sa := pa.sc.same e1
      have sq := SqL.of (K := K) hb
      walk_at "go"
      refine ⟨b, [n1, n2, n3, n4], 2, rfl, sq, rfl, by decide, fun p2 H2 us e2 f2 hp2 ts => ?_⟩
      obtain ⟨v1, v2, rfl, t1, t2⟩ := pts2 ts
      replace q' := q'.go e2
      replace h1 := e2 _ _ h1
      replace sa := sa.same e2
      have sp2 := SqL.of (K := K) hp2
      walk_at "go"
      refine ⟨_, _, _, z, _, _, rfl, sa, sB, t1, PB_pt m1 m2, t2, PB_pt m3 m4, fun H3 e3 => ?_⟩
      replace q' := q'.go e3
      walk_at "go"
      refine ⟨_, rfl, ?_⟩
      walk_at "go"
      exact w_retL q' rfl (by show 1 ≤ sizeLine; decide)
/-! answer_meet -/
def ansMeet (st : State) (f t : Pt) : Ans := match st.l with
  | none => .num (-16)
  | some l => orElse (place (cross (cross f t) l)) (-6)
abbrev s_answer_meet : Stmt := top 36
abbrev n_answer_meet : List Str := ["picture", "numbers", "points"]
theorem sc_answer_meet : FnScope ["picture", "numbers", "points"] ["picture", "numbers"] (defScope s_answer_meet) := ⟨rfl, rfl, rfl, by decide +kernel, rfl, by decide +kernel, by decide +kernel⟩
theorem ok_answer_meet (T : Txt K mg C) (d : DF K mg "answer_meet" s_answer_meet ["picture", "numbers"]) (c_are_seen : Cal P w K mg base 2 "are_seen" (sp_are_seen K)) (c_points_of : Cal P w K mg base 1 "points_of" (sp_points_of K)) (c_is_same : Cal P w K mg base 2 "is_same" sp_is_same) (c_tell_place : Cal P w K mg base 3 "tell_place" sp_tell_place)
    (c_meet : MCal P w K mg base 2 C "meet" (sp_meet C)) : Cal P w K mg base 6 "answer_meet" (sp_ans C 13 4) := by
  refine d.cal sc_answer_meet sp_ans_len (fun f cdv A outer s H vs Q E hr h => ⟨_, (pss_cons (ps_if (pt_not (pt_val (pe_cal c_are_seen (hr.mono (by decide)) rfl (pa_cons (pv 1) pa_nil)))) (pss_one (ps_ret (pe_lst (pa_cons (pe_const T.k_OUT_OF_RANGE rfl) pa_nil)))) pss_nil)
      (pss_cons (ps_set (i := 2) sc_answer_meet.nd rfl (Or.inl rfl) (pe_cal c_points_of (hr.mono (by decide)) rfl (pa_cons (pv 1) pa_nil)))
      (pss_cons (ps_if (pt_val (pe_cal c_is_same (hr.mono (by decide)) rfl (pa_cons (pe_ix ix_list (pv 2) pe_int (fun _ _ => rfl)) (pa_cons (pe_ix ix_list (pv 2) pe_int (fun _ _ => rfl)) pa_nil)))) (pss_one (ps_ret (pe_lst (pa_cons (pe_const T.k_SAME_POINT rfl) pa_nil)))) pss_nil)
      (pss_cons (ps_if (pt_cmpR op_isN (pe_fld (pv 0) rfl) pe_non (nomark _)) (pss_one (ps_ret (pe_lst (pa_cons (pe_const T.k_NOT_READY rfl) pa_nil)))) pss_nil)
      (pss_one (ps_ret (pe_cal c_tell_place (hr.mono (by decide)) rfl (pa_cons (pe_met c_meet T.cl (hr.mono (by decide)) (pv 0) (pa_cons (pe_ix ix_list (pv 2) pe_int (fun _ _ => rfl)) (pa_cons (pe_ix ix_list (pv 2) pe_int (fun _ _ => rfl)) pa_nil))) pa_nil)))))))), ?_⟩)
  obtain ⟨a, b, st, ns, rfl, pa, sb, hb, hl, q⟩ := h
  match ns, hl with
  | [n1, n2, n3, n4], _ =>
  have q' := ans_pure (ans := Kqy3Neutral.tell (if all [n1, n2, n3, n4] = false then .num (-22) else if n1 = n3 ∧ n2 = n4 then .num (-17) else ansMeet st (pt n1 n2) (pt n3 n4))) pa sb rfl q
  clear q
  simp only [same_iff] at q'
  obtain ⟨cl, a1, a2, a3, a4, a5⟩ := T.at_
  obtain ⟨a', dx, vh, vu, vf, vt, vn, ea, h1, h2, h3, h4⟩ := pa.ex
  cases ea
  clear h3 h4
  walk_at "go"
  refine ⟨b, _, rfl, SqL.of hb, ?_⟩
  walk_at "go"
  cases ha : all [n1, n2, n3, n4] with
  | false =>
    rw [ha, if_pos rfl] at q'
    refine ite_t rfl ?_
    walk_at "go"
    exact w_retL q' rfl (by show 1 ≤ sizeLine; decide)
  | true =>
    rw [ha, if_neg (by decide)] at q'
    refine ite_f rfl ?_
    obtain ⟨m1, m2, m3, m4⟩ := all4 ha
    have sq := SqL.of (K := K) hb
    walk_at "go"
    refine ⟨b, [n1, n2, n3, n4], 2, rfl, sq, rfl, by decide, fun p2 H2 us e2 f2 hp2 ts => ?_⟩
    obtain ⟨v1, v2, rfl, t1, t2⟩ := pts2 ts
    replace q' := q'.go e2
    replace h1 := e2 _ _ h1
    replace h2 := h2.same e2
    replace pa := pa.same e2
    have sp2 := SqL.of (K := K) hp2
    walk_at "go"
    refine ⟨_, _, _, _, rfl, t1, t2, (PB_pt m1 m2).up, (PB_pt m3 m4).up, fun H3 e3 => ?_⟩
    replace q' := q'.go e3
    replace h1 := e3 _ _ h1
    replace h2 := h2.same e3
    replace pa := pa.same e3
    replace t1 := t1.same e3
    replace t2 := t2.same e3
    replace sp2 := e3.seq sp2
    walk_at "go"
    cases hk : alike (pt n1 n2) (pt n3 n4) with
    | true =>
      rw [hk, if_pos rfl] at q'
      refine ite_t rfl ?_
      walk_at "go"
      exact w_retL q' rfl (by show 1 ≤ sizeLine; decide)
    | false =>
      rw [hk, if_neg (by decide)] at q'
      refine ite_f rfl ?_
      walk_at "go"
      unfold ansMeet at q'
      cases hl : st.l with
      | none =>
        rw [hl] at q' h2
        cases h2
        refine ite_t rfl ?_
        walk_at "go"
        exact w_retL q' rfl (by show 1 ≤ sizeLine; decide)
      | some l =>
        rw [hl] at q' h2
        have h2 : Tri H3 vh l := h2
        have bl := (sb.l l hl).1
        refine ite_f (decide_eq_false h2.ne) ?_
        walk_at "go"
        refine ⟨_, _, _, st, l, _, _, rfl, pa, hl, bl, t1, PB_pt m1 m2, t2, PB_pt m3 m4, fun y4 H4 e4 t4 => ?_⟩
        replace q' := q'.go e4
        walk_at "go"
        exact ⟨_, _, rfl, t4, (PB_cross (PB_cross (PB_pt m1 m2) (PB_pt m3 m4)) bl).mono (by decide), q'⟩
/-! answer_state -/
theorem notN_opt {H : Hp} {v : V} {o : Option Pt} (h : OptT H v o) : (!decide (v = .non)) = o.isSome := by
  cases o with
  | none =>
    have e : v = .non := h
    rw [decide_eq_true e]
    rfl
  | some p =>
    rw [decide_eq_false (Tri.ne h)]
    rfl
theorem notN_post {H : Hp} {x y z : V} {o : Option (Pt × Pt × Int)} (h : PostT H x y z o) : (!decide (x = .non)) = o.isSome := by
  cases o with
  | none =>
    rw [decide_eq_true h.1]
    rfl
  | some p =>
    rw [decide_eq_false (Tri.ne h.1)]
    rfl
def oneI (b : Bool) : Int := if b = true then 1 else 0
abbrev s_answer_state : Stmt := top 37
abbrev n_answer_state : List Str := ["picture", "numbers", "told", "truth"]
theorem sc_answer_state : FnScope ["picture", "numbers", "told", "truth"] ["picture", "numbers"] (defScope s_answer_state) := ⟨rfl, rfl, rfl, by decide +kernel, rfl, by decide +kernel, by decide +kernel⟩
theorem ok_answer_state (T : Txt K mg C) (d : DF K mg "answer_state" s_answer_state ["picture", "numbers"]) (c_one_if : Cal P w K mg base 1 "one_if" sp_one_if) (c_is_ready : MCal P w K mg base 5 C "is_ready" (sp_is_ready C)) : Cal P w K mg base 6 "answer_state" (sp_ans C 14 0) := by
  refine d.cal sc_answer_state sp_ans_len (fun f cdv A outer s H vs Q E hr h => ⟨_, (pss_cons (ps_set (i := 2) sc_answer_state.nd rfl (Or.inl rfl) (pe_lst (pa_cons (pe_cmpR op_notN (pe_fld (pv 0) rfl) pe_non (nomark _)) (pa_cons (pe_cmpR op_notN (pe_fld (pv 0) rfl) pe_non (nomark _)) (pa_cons (pe_cmpR op_notN (pe_fld (pv 0) rfl) pe_non (nomark _)) pa_nil)))))
      (pss_one (ps_ret (pe_op op_cat (pe_lst (pa_cons (pe_cal c_one_if (hr.mono (by decide)) rfl (pa_cons (pe_met0 c_is_ready T.cl (hr.mono (by decide)) (pv 0)) pa_nil)) pa_nil)) (pe_lc (own := [("truth", 3)]) (g := gName 3) (tt := tYes) rfl sc_answer_state.nd (pi_list (pv 2)) (blkOk_by (own := [("truth", 3)]) (N := n_answer_state) (sc := defScope s_answer_state) (by decide +kernel)) (fun _ _ _ _ _ => pg_name (i := 3) sc_answer_state.nd rfl (Or.inl rfl)) (fun _ _ _ _ _ => pts_nil) (fun _ _ _ _ _ => (pe_cal c_one_if (hr.mono (by decide)) rfl (pa_cons (pv 3) pa_nil)))))))), ?_⟩)
  obtain ⟨a, b, st, ns, rfl, pa, sb, hb, hl, q⟩ := h
  obtain rfl : ns = [] := List.length_eq_zero_iff.mp hl
  have q' := ans_pure (ans := [oneI (sceneOf st).isSome] ++ [st.l.isSome, st.up.isSome, st.post.isSome].map oneI) pa sb rfl q
  clear q
  obtain ⟨cl, a1, a2, a3, a4, a5⟩ := T.at_
  obtain ⟨a', dx, vh, vu, vf, vt, vn, ea, h1, h2, h3, h4⟩ := pa.ex
  cases ea
  walk_at "go"
  refine w_newL (by show 3 ≤ sizeLine; decide) fun p1 H1 e1 n1 g1 => ?_
  rw [notN_opt h2, notN_opt h3, notN_post h4] at g1
  replace q' := q'.go e1
  replace h1 := e1 _ _ h1
  replace pa := pa.same e1
  clear h2 h3 h4
  have sq : SqL K H1 p1 ([st.l.isSome, st.up.isSome, st.post.isSome].map V.bl) := SqL.of g1
  clear g1
  have hbl : [st.l.isSome, st.up.isSome, st.post.isSome].length = 3 := rfl
  generalize [st.l.isSome, st.up.isSome, st.post.isSome] = bs at *
  walk_at "go"
  refine ⟨_, st, rfl, pa, sb, fun H2 e2 => ?_⟩
  replace q' := q'.go e2
  replace sq := e2.seq sq
  walk_at "go"
  refine ⟨_, rfl, ?_⟩
  walk_at "go"
  refine w_newL (by show 1 ≤ sizeLine; decide) fun p3 H3 e3 n3 g3 => ?_
  replace q' := q'.go e3
  replace sq := e3.seq sq
  refine w_lc (w_iList ?_)
  walk_at "go"
  refine w_iListk sq (lc_gen fun D hD => ?_)
  refine ⟨bs.length, fun i H' => Same H3 H' ∧ H' D = some (.lst (((bs.take i).map oneI).map V.int)), ⟨same_upd (Same.refl H3) hD, by rw [List.take_zero]; exact upd_same⟩, ?_, ?_, ?_, ?_⟩
  · rintro G ⟨e, _⟩
    exact ⟨_, e.seq sq, by rw [List.length_map]; exact Nat.le_refl _⟩
  · rintro i G hi ⟨e, _⟩
    exact ⟨_, _, e.seq sq, by rw [List.getElem?_map, List.getElem?_eq_getElem hi]; rfl⟩
  · rintro i G x G' hi ⟨e, hacc⟩ ⟨rfl, y⟩
    have hx := y _ (e.seq sq)
    rw [List.getElem?_map, List.getElem?_eq_getElem hi] at hx
    cases hx
    walk_at "go"
    refine ⟨bs[i], rfl, _, hacc, ?_, same_upd e hD, ?_⟩
    · rw [List.length_map, List.length_map, List.length_take]
      exact Nat.lt_of_le_of_lt (Nat.min_le_right _ _) (by rw [hbl]; decide)
    · rw [upd_same, List.take_add_one, List.getElem?_eq_getElem hi, List.map_append, List.map_append]
      rfl
  · rintro G ⟨e, hacc⟩
    rw [List.take_length] at hacc
    exact w_cat (xs := [oneI (sceneOf st).isSome]) (e _ _ g3) hacc (by rw [List.length_map, hbl]; show 1 + 3 ≤ 1000; decide) (q'.go e)
end
end TW
namespace TW
open PySem PySem.Spec PyProof.Rows L2 Kqy3
local macro_rules | `(tactic| walk_at "bb") => `(tactic| first | assumption | (apply B.mul <;> walk_at "bb") | (apply B.add <;> walk_at "bb") | (apply B.sub <;> walk_at "bb") | (apply B.neg; walk_at "bb"))
local macro_rules | `(tactic| walk_at "step") => `(tactic| first
  | with_reducible refine w_c ?_
  | ((with_reducible show tVar _ _ _ _); refine w_var (by exact rfl) ?_)
  | with_reducible refine w_op ?_
  | with_reducible refine w_un ?_
  | with_reducible refine w_rI0 ?_
  | with_reducible refine w_rU ?_
  | ((with_reducible show rI CMulW _ _ _ _ _); refine w_rI (by apply B.cmul <;> first | walk_at "bb" | decide) ?_)
  | ((with_reducible show rIxT _ _ _ _ _); refine w_ixT (by assumption) (by exact rfl) ?_)
  | ((with_reducible show rIxL _ _ _ _ _); refine w_ixL (by assumption) (by exact rfl) ?_)
  | with_reducible refine w_eq ?_
  | with_reducible refine w_ne ?_
  | with_reducible refine w_fld ?_
  | ((with_reducible show FldK _ _ _ _ _); refine w_fldk (by assumption) (by assumption) (by assumption) (by first | with_reducible exact pF_horizon | with_reducible exact pF_up | with_reducible exact pF_foot | with_reducible exact pF_head | with_reducible exact pF_height) ?_)
  | with_reducible refine w_cons ?_
  | with_reducible refine w_nil ?_
  | with_reducible refine w_cal ?_
  | with_reducible refine w_met ?_
  | ((with_reducible show MetK _ _ _ _ _ _ _ _); refine w_metk (by assumption) (by walk_at "nometh") ?_)
  | with_reducible refine w_tup ?_
  | with_reducible refine w_lst ?_
  | with_reducible refine w_cb ?_
  | with_reducible refine w_seq ?_
  | with_reducible refine w_asg ?_
  | with_reducible refine w_ret ?_
  | with_reducible refine w_if ?_
  | with_reducible refine w_next ?_
  | with_reducible refine w_test ?_
  | with_reducible refine w_tB ?_
  | with_reducible refine w_tstk ?_
  | with_reducible refine w_and ?_
  | with_reducible refine w_or ?_
  | with_reducible refine w_not ?_
  | with_reducible refine w_andV ?_
  | with_reducible refine w_notV ?_
  | ((with_reducible show V.non = V.non ∧ _); refine ⟨rfl, ?_⟩)
  | with_reducible refine w_notk ?_
  | with_reducible refine w_ifx ?_
  | with_reducible refine w_sl ?_
  | with_reducible refine w_noP ?_
  | with_reducible refine w_part ?_
  | with_reducible refine w_partk ?_
  | with_reducible refine w_sfld ?_)
local macro_rules | `(tactic| walk_at "go") => `(tactic| repeat walk_at "step")
local macro_rules | `(tactic| walk_at "nometh") => `(tactic| (refine (lk_past (by decide +kernel)).trans ((lk_past (by decide +kernel)).trans ((lk_past (by decide +kernel)).trans ((lk_past (by decide +kernel)).trans ((lk_past (by decide +kernel)).trans rfl))))))
section
variable {P : Program} {w : World} {K : PySem.W.Frag} {mg : Str → Option Value} {base : Heap} {C : Addr}
/-! __init__ -/
abbrev s_init : Stmt := inClass (top 7) 0
theorem sc_init : FnScope ["self"] ["self"] (defScope s_init) := ⟨rfl, rfl, rfl, by decide +kernel, rfl, by decide +kernel, by decide +kernel⟩
def st0 : State := ⟨none, none, none⟩
def sp_init (C : Addr) : Sp := fun vs H Q _ => ∃ (p dx : Addr), vs = [.ref p] ∧ H p = some (.ins C dx []) ∧ ∀ H' : Hp, PicAt C H' (.ref p) st0 → Keep p H H' → Q .non H'
theorem ok_init (T : Txt K mg C) {f : Addr} {fd : FuncData} (F : Fun K "__init__" "Picture.__init__" s_init f fd) : FnOk P w K mg base CX0 1 f fd ["self"] (sp_init C) := by
  refine F.ok sc_init (fun vs H Q E h => ?_) (fun cdv A outer s H vs Q E hr h => ⟨_, (pss_cons (ps_fld (pv 0) pe_non rfl)
      (pss_cons (ps_fld (pv 0) pe_non rfl)
      (pss_cons (ps_fld (pv 0) pe_non rfl)
      (pss_cons (ps_fld (pv 0) pe_non rfl)
      (pss_one (ps_fld (pv 0) pe_non rfl)))))), ?_⟩)
  · obtain ⟨_, _, rfl, _⟩ := h
    rfl
  · obtain ⟨p, dx, rfl, hp, q⟩ := h
    obtain ⟨cl, a1, a2, a3, a4, a5⟩ := T.at_
    walk_at "go"
    refine w_sfldk hp cl a1 (by show 0 < 1000; decide) (gs := [("horizon", .non)]) rfl ?_
    walk_at "go"
    refine w_sfldk upd_same cl a2 (by show 1 < 1000; decide) (gs := [("horizon", .non), ("up", .non)]) (put_past (by decide +kernel)) ?_
    walk_at "go"
    refine w_sfldk upd_same cl a3 (by show 2 < 1000; decide) (gs := [("horizon", .non), ("up", .non), ("post_foot", .non)]) ((put_past (by decide +kernel)).trans (congrArg _ (put_past (by decide +kernel)))) ?_
    walk_at "go"
    refine w_sfldk upd_same cl a4 (by show 3 < 1000; decide) (gs := [("horizon", .non), ("up", .non), ("post_foot", .non), ("post_head", .non)]) ((put_past (by decide +kernel)).trans (congrArg _ ((put_past (by decide +kernel)).trans (congrArg _ (put_past (by decide +kernel)))))) ?_
    walk_at "go"
    refine w_sfldk upd_same cl a5 (by show 4 < 1000; decide) (gs := pF .non .non .non .non .non) ((put_past (by decide +kernel)).trans (congrArg _ ((put_past (by decide +kernel)).trans (congrArg _ ((put_past (by decide +kernel)).trans (congrArg _ (put_past (by decide +kernel)))))))) ?_
    refine q _ ⟨p, dx, .non, .non, .non, .non, .non, rfl, upd_same, rfl, rfl, ⟨rfl, rfl, rfl⟩⟩ ?_
    exact Keep.upd (Keep.upd (Keep.upd (Keep.upd (Keep.upd (fun b o h _ => h)))))
/-! answers -/
def PicO (C : Addr) (H0 H : Hp) (v : V) : Option State → Prop
  | none => v = .non
  | some st => StB st ∧ ∃ x, v = .ref x ∧ H0 x = none ∧ PicAt C H v st
theorem PicAt.keep {t : Addr} {H H' : Hp} {x : V} {st : State} {xs : List V} (h : PicAt C H x st) (k : Keep t H H') (ht : H t = some (.lst xs)) : PicAt C H' x st := by
  have tri : ∀ {v : V} {p : Pt}, Tri H v p → Tri H' v p := fun {v p} tv => by
    obtain ⟨b, rfl, hb⟩ := tv.ex
    exact ⟨b, rfl, k b _ hb (ne_of hb ht (by intro z; cases z))⟩
  have opt : ∀ {v : V} {p : Option Pt}, OptT H v p → OptT H' v p := fun {v p} tv => by
    cases p with
    | none => exact tv
    | some p => exact tri tv
  obtain ⟨a, dx, vh, vu, vf, vt, vn, h0, h1, h2, h3, h4⟩ := h.ex
  refine ⟨a, dx, vh, vu, vf, vt, vn, h0, k a _ h1 (ne_of h1 ht (by intro z; cases z)), opt h2, opt h3, ?_⟩
  obtain ⟨l, u, o⟩ := st
  cases o with
  | none => exact h4
  | some o => exact ⟨tri h4.1, tri h4.2.1, h4.2.2⟩
theorem PicO.keep {t : Addr} {H0 H H' : Hp} {v : V} {s : Option State} {xs : List V} (h : PicO C H0 H v s) (k : Keep t H H') (ht : H t = some (.lst xs)) : PicO C H0 H' v s := by
  cases s with
  | none => exact h
  | some st =>
    obtain ⟨b, x, e, n, pa⟩ := h
    exact ⟨b, x, e, n, pa.keep k ht⟩
theorem PicO.same {H0 H H' : Hp} {v : V} {s : Option State} (h : PicO C H0 H v s) (e : Same H H') : PicO C H0 H' v s := by
  cases s with
  | none => exact h
  | some st =>
    obtain ⟨b, x, e', n, pa⟩ := h
    exact ⟨b, x, e', n, pa.same e⟩
/-- told.append(len(answer)); told.extend(answer); place = behind -/
theorem tail_ok {D : Ends} {σ : L2.St} {H : Hp} {t b : Addr} {told ans : List Int} {v5 : V} (s1 : σ[1]? = some (some (.ref t))) (s6 : σ[6]? = some (some (.ref b))) (s5 : σ[5]? = some (some v5)) (ht : H t = some (.lst (told.map V.int))) (hb : H b = some (.lst (ans.map V.int))) (ne : b ≠ t)
    (hz : told.length + 1 + ans.length ≤ 10000001) (q : ∀ H', Keep t H H' → H' t = some (.lst ((told ++ ((ans.length : Int) :: ans)).map V.int)) → D.nx (σ.set 3 (some v5)) H') :
    tSeq (tDrop (tBM K "list" rAppend (tVar 1) (tCons (tCB (rLen K) (tCons (tVar 6) tNil)) tNil))) (tSeq (tDrop (tBM K "list" rExtend (tVar 1) (tCons (tVar 6) tNil))) (tAsg (tVar 5) (gName 3))) D σ H := by
  have sz : (10000001 : Nat) < sizeLine := by decide
  refine ⟨.ref t, s1, .inl ⟨rfl, _, SqL.of ht⟩, .ref b, s6, b, _, rfl, .inl (SqL.of hb), t, _, _, rfl, rfl, ht, ?_, ?_⟩
  · rw [List.length_map]
    omega
  · refine ⟨.ref t, s1, .inl ⟨rfl, _, SqL.of upd_same⟩, .ref b, s6, t, b, _, ans.map V.int, rfl, rfl, upd_same, ?_, ?_, v5, s5, ?_⟩
    · rw [upd_ne ne]
      exact hb
    · rw [List.length_append, List.length_map, List.length_map]
      show told.length + 1 + ans.length ≤ sizeLine
      omega
    · refine q _ (Keep.upd (Keep.upd (fun b o h _ => h))) ?_
      rw [upd_same, List.map_append, List.map_cons, List.length_map, List.append_assoc]
      rfl
def sp_answers (K : PySem.W.Frag) : Sp := fun vs H Q _ => ∃ (a : Addr) (ns : List Int), vs = [.ref a] ∧ SqL K H a (ns.map V.int) ∧ PyKqy3.answers_asked ns = true ∧ ∀ (H' : Hp) (p : Addr), H' p = some (.lst ((PyKqy3.answers ns).map V.int)) → Q (.ref p) H'
def spOf (C : Addr) (p : Int) (k : Nat) : Sp := if p = 0 then sp_start else sp_ans C p k
/-- the table of the calls -/
structure Tab (P : Program) (w : World) (K : PySem.W.Frag) (mg : Str → Option Value) (base : Heap) (C : Addr) (S : Addr → Sp → Prop) : Prop where
  ex : ∃ d es, mg "CALLS" = some (.ref d) ∧ KDI K w P d es ∧ ∀ p k, PyKqy3.shape p = some (k, 0) → ∃ r f, findBy Value.isInt es p = some (.ref r) ∧ (∀ H, SqT K H r [.int k, .ref f]) ∧ S f (spOf C p k)
  hS : ∀ f sp, S f sp → Held P w K mg base 6 f sp
structure MkP (P : Program) (w : World) (K : PySem.W.Frag) (mg : Str → Option Value) (base : Heap) (C : Addr) : Prop where
  ex : ∃ f fd, Mk K C f ∧ FnOk P w K mg base CX0 1 f fd ["self"] (sp_init C) ∧ Binds K fd ["self"] []
abbrev s_answers : Stmt := top 39
theorem sc_answers : FnScope ["calls", "told", "picture", "place", "row", "behind", "answer"] ["calls"] (defScope s_answers) := ⟨rfl, rfl, rfl, by decide +kernel, rfl, by decide +kernel, by decide +kernel⟩
theorem cut_at {ns r : List Int} {i k : Nat} {p : Int} (h : ns.drop i = p :: r) (hk : k ≤ r.length) : cutV (ns.map V.int) (some ((i : Int) + 1)) (some ((i : Int) + 1 + k)) = (r.take k).map V.int := by
  have hd : ns.drop (i + 1) = r := by
    rw [← List.drop_drop, h]
    rfl
  have hl : ns.length - (i + 1) = r.length := by rw [← hd, List.length_drop]
  have hi : i < ns.length := by
    have := congrArg List.length h
    rw [List.length_drop, List.length_cons] at this
    omega
  unfold cutV
  have e1 : ((i : Int) + 1) = ((i + 1 : Nat) : Int) := by omega
  have e2 : ((i : Int) + 1 + k) = ((i + 1 + k : Nat) : Int) := by omega
  rw [e2, e1, HT.sIx_nat, HT.sIx_nat, List.length_map, Nat.min_eq_left (by omega), Nat.min_eq_left (by omega), ← List.map_drop, hd, ← List.map_take]
  have e3 : i + 1 + k - (i + 1) = k := by omega
  rw [e3]
theorem drop_at {ns r : List Int} {i k : Nat} {p : Int} (h : ns.drop i = p :: r) : ns.drop (i + 1 + k) = r.drop k := by
  rw [Nat.add_assoc, ← List.drop_drop, h, Nat.add_comm 1 k]
  rfl
theorem at_drop {ns r : List Int} {i : Nat} {p : Int} (h : ns.drop i = p :: r) : atI (ns.map V.int) (i : Int) = some (.int p) := by
  refine atI_nat ?_
  have : ns[i]? = some p := by
    have e := congrArg (fun l => l[0]?) h
    simpa using e
  rw [List.getElem?_map, this]
  rfl
/-- what holds between two turns -/
def Inv1 (K : PySem.W.Frag) (C : Addr) (H0 : Hp) (a t : Addr) (ns : List Int) (m : Nat) (σ : L2.St) (H : Hp) : Prop := ∃ (i : Nat) (told : List Int) (s : Option State) (vp : V) (raw : List (List (List Int))) (fu : Nat) (o4 o5 o6 : Option V),
  σ = [some (.ref a), some (.ref t), some vp, some (.int i), o4, o5, o6] ∧ m = ns.length - i ∧ i ≤ ns.length ∧ PyFlat.calls PyKqy3.shape fu (ns.drop i) = some raw ∧ PyKqy3.answers ns = told ++ TP.run s raw ∧ Same H0 H ∧ H0 t = none ∧ H t = some (.lst (told.map V.int)) ∧ PicO C H0 H vp s
end
end TW
namespace TW
open PySem PySem.Spec PyProof.Rows L2 Kqy3
local macro_rules | `(tactic| walk_at "bb") => `(tactic| first | assumption | (apply B.mul <;> walk_at "bb") | (apply B.add <;> walk_at "bb") | (apply B.sub <;> walk_at "bb") | (apply B.neg; walk_at "bb"))
local macro_rules | `(tactic| walk_at "step") => `(tactic| first
  | with_reducible refine w_c ?_
  | ((with_reducible show tVar _ _ _ _); refine w_var (by exact rfl) ?_)
  | with_reducible refine w_op ?_
  | with_reducible refine w_un ?_
  | with_reducible refine w_rI0 ?_
  | with_reducible refine w_rU ?_
  | ((with_reducible show rI CMulW _ _ _ _ _); refine w_rI (by apply B.cmul <;> first | walk_at "bb" | decide) ?_)
  | ((with_reducible show rIxT _ _ _ _ _); refine w_ixT (by assumption) (by exact rfl) ?_)
  | ((with_reducible show rIxL _ _ _ _ _); refine w_ixL (by assumption) (by exact rfl) ?_)
  | with_reducible refine w_eq ?_
  | with_reducible refine w_ne ?_
  | with_reducible refine w_fld ?_
  | ((with_reducible show FldK _ _ _ _ _); refine w_fldk (by assumption) (by assumption) (by assumption) (by first | with_reducible exact pF_horizon | with_reducible exact pF_up | with_reducible exact pF_foot | with_reducible exact pF_head | with_reducible exact pF_height) ?_)
  | with_reducible refine w_cons ?_
  | with_reducible refine w_nil ?_
  | with_reducible refine w_cal ?_
  | with_reducible refine w_met ?_
  | ((with_reducible show MetK _ _ _ _ _ _ _ _); refine w_metk (by assumption) (by walk_at "nometh") ?_)
  | with_reducible refine w_tup ?_
  | with_reducible refine w_lst ?_
  | with_reducible refine w_cb ?_
  | with_reducible refine w_seq ?_
  | with_reducible refine w_asg ?_
  | with_reducible refine w_ret ?_
  | with_reducible refine w_if ?_
  | with_reducible refine w_next ?_
  | with_reducible refine w_test ?_
  | with_reducible refine w_tB ?_
  | with_reducible refine w_tstk ?_
  | with_reducible refine w_and ?_
  | with_reducible refine w_or ?_
  | with_reducible refine w_not ?_
  | with_reducible refine w_andV ?_
  | with_reducible refine w_notV ?_
  | ((with_reducible show V.non = V.non ∧ _); refine ⟨rfl, ?_⟩)
  | with_reducible refine w_notk ?_
  | with_reducible refine w_ifx ?_
  | with_reducible refine w_sl ?_
  | with_reducible refine w_noP ?_
  | with_reducible refine w_part ?_
  | with_reducible refine w_partk ?_
  | with_reducible refine w_sfld ?_)
local macro_rules | `(tactic| walk_at "go") => `(tactic| repeat walk_at "step")
local macro_rules | `(tactic| walk_at "nometh") => `(tactic| (refine (lk_past (by decide +kernel)).trans ((lk_past (by decide +kernel)).trans ((lk_past (by decide +kernel)).trans ((lk_past (by decide +kernel)).trans ((lk_past (by decide +kernel)).trans rfl))))))
section
variable {P : Program} {w : World} {K : PySem.W.Frag} {mg : Str → Option Value} {base : Heap} {C : Addr} {S : Addr → Sp → Prop}
theorem ok_answers (T : Txt K mg C) {f : Addr} {fd : FuncData} (F : Fun K "answers" "answers" s_answers f fd) (mk : MkP P w K mg base C) (tab : Tab P w K mg base C S) : FnOk P w K mg base CX0 8 f fd ["calls"] (sp_answers K) := by
  obtain ⟨fI, fdI, M, G, bI⟩ := mk.ex
  obtain ⟨dC, esC, gCalls, kdi, rows⟩ := tab.ex
  have hS := tab.hS
  refine F.ok sc_answers (fun vs H Q E h => ?_) (fun cdv A outer s H vs Q E hr h => ⟨_, (pss_cons (ps_set (i := 1) sc_answers.nd rfl (Or.inl rfl) (pe_lst pa_nil))
      (pss_cons (ps_set (i := 2) sc_answers.nd rfl (Or.inl rfl) pe_non)
      (pss_cons (ps_set (i := 3) sc_answers.nd rfl (Or.inl rfl) pe_int)
      (pss_cons (ps_while PassesOwn.never (pt_cmpR op_lt (pv 3) (pe_callB call_lenR (by rfl) T.b_len (by decide +kernel) (pa_cons (pv 0) pa_nil)) (nomark _)) (pss_cons (ps_set (i := 4) sc_answers.nd rfl (Or.inl rfl) (pe_ix ix_kint (pe_glob (v := .ref dC) rfl gCalls rfl) (pe_ix ix_list (pv 0) (pv 3) (fun _ _ => rfl)) (fun _ _ => rfl)))
      (pss_cons (ps_set (i := 5) sc_answers.nd rfl (Or.inl rfl) (pe_op op_add (pe_op op_add (pv 3) pe_int) (pe_ix ix_tup (pv 4) pe_int (fun _ _ => rfl))))
      (pss_cons (ps_if (pt_cmpR op_eq (pe_ix ix_list (pv 0) (pv 3) (fun _ _ => rfl)) (pe_const T.k_START rfl) (nomark _)) (pss_one (ps_set (i := 2) sc_answers.nd rfl (Or.inl rfl) (pe_make0 M G (hr.mono (by decide)) rfl T.gC bI .nil pass0))) pss_nil)
      (pss_cons (ps_set (i := 6) sc_answers.nd rfl (Or.inl rfl) (pe_lst (pa_cons (pe_const T.k_NOT_STARTED rfl) pa_nil)))
      (pss_cons (ps_if (pt_cmpR op_notN (pv 2) pe_non (nomark _)) (pss_one (ps_set (i := 6) sc_answers.nd rfl (Or.inl rfl) (pe_callS hS (hr.mono (by decide)) (pe_ix ix_tup (pv 4) pe_int (fun _ _ => rfl)) (pa_cons (pv 2) (pa_cons (pe_slice sl_list (pv 0) (po_some (pe_op op_add (pv 3) pe_int)) (po_some (pv 5))) pa_nil))))) pss_nil)
      (pss_cons (ps_expr (pe_bm PySem.F.plainAttrs_list PySem.F.slot_list_append PySem.F.type_list_append mt_append (pv 1) (pa_cons (pe_callB call_lenR (by rfl) T.b_len (by decide +kernel) (pa_cons (pv 6) pa_nil)) pa_nil)))
      (pss_cons (ps_expr (pe_bm PySem.F.plainAttrs_list PySem.F.slot_list_extend PySem.F.type_list_extend mt_extend (pv 1) (pa_cons (pv 6) pa_nil)))
      (pss_one (ps_set (i := 3) sc_answers.nd rfl (Or.inl rfl) (pv 5)))))))))))
      (pss_one (ps_ret (pv 1))))))), ?_⟩)
  · obtain ⟨_, _, rfl, _⟩ := h
    rfl
  · obtain ⟨a, ns, rfl, sq, hq, q⟩ := h
    obtain ⟨raw0, hraw0, hlen⟩ := TP.asked_raw hq
    walk_at "go"
    refine w_newL (by show 0 ≤ sizeLine; decide) fun t Ht et nt ht => ?_
    walk_at "go"
    refine ⟨Inv1 K C H a t ns, ⟨ns.length - 0, 0, [], none, .non, raw0, ns.length, none, none, none, rfl, rfl, Nat.zero_le _, hraw0, TP.answers_run hraw0, et, nt, ht, rfl⟩, ?_⟩
    rintro m σ H1 ⟨i, told, s, vp, raw, fu, o4, o5, o6, rfl, rfl, hi, hraw, hans, e1, _, ht, po⟩
    have sq1 := e1.seq sq
    walk_at "go"
    refine w_len sq1 ?_
    walk_at "go"
    rw [List.length_map]
    refine ite_d (fun c => ?_) (fun c => ?_)
    · -- one call more
      obtain ⟨p, r, hd⟩ : ∃ p r, ns.drop i = p :: r := by
        cases e : ns.drop i with
        | nil =>
          have := congrArg List.length e
          rw [List.length_drop, List.length_nil] at this
          omega
        | cons p r => exact ⟨p, r, rfl⟩
      rw [hd] at hraw
      obtain ⟨k, raw', fu', hsh, hk, rfl, hraw'⟩ := TP.calls_cons hraw
      have hxs : (r.take k).length = k := by rw [List.length_take]; omega
      obtain ⟨hw, hnone, hsome⟩ := TP.call_facts hsh hxs
      rw [TP.run_cons hw] at hans
      obtain ⟨rw', fw, hfind, hrow, hSf⟩ := rows p k hsh
      have hat := at_drop hd
      refine ⟨Inv1 K C H a t ns (ns.length - (i + 1 + k)), fun σ' H' z => ⟨_, by have := congrArg List.length hd; rw [List.length_drop, List.length_cons] at this; omega, z⟩, ?_⟩
      -- the end of a turn
      have fin : ∀ (vp' : V) (H5 : Hp) (b : Addr), Same H H5 → H5 t = some (.lst (told.map V.int)) → H5 b = some (.lst ((Kqy3Neutral.step s [p :: r.take k]).2.map V.int)) → b ≠ t → PicO C H H5 vp' (Kqy3Neutral.step s [p :: r.take k]).1 →
          tSeq (tDrop (tBM K "list" rAppend (tVar 1) (tCons (tCB (rLen K) (tCons (tVar 6) tNil)) tNil))) (tSeq (tDrop (tBM K "list" rExtend (tVar 1) (tCons (tVar 6) tNil))) (tAsg (tVar 5) (gName 3)))
            { nx := Inv1 K C H a t ns (ns.length - (i + 1 + k)), ct := Inv1 K C H a t ns (ns.length - (i + 1 + k)), bk := tRet (tVar 1) { nx := fun _ H' => Q .non H', rt := Q }, rt := Q }
            [some (.ref a), some (.ref t), some vp', some (.int i), some (.ref rw'), some (.int ((i : Int) + 1 + k)), some (.ref b)] H5 := by
        intro vp' H5 b e5 t5 b5 ne po5
        refine tail_ok (v5 := .int ((i : Int) + 1 + k)) rfl rfl rfl t5 b5 ne ?_ fun H6 k6 h6 => ?_
        · have := congrArg List.length hans
          rw [List.length_append, List.length_append, List.length_cons] at this
          omega
        · refine ⟨i + 1 + k, _, _, vp', raw', fu', some (.ref rw'), some (.int ((i : Int) + 1 + k)), some (.ref b), ?_, rfl, ?_, ?_, ?_, ?_, nt, h6, po5.keep k6 t5⟩
          · have : ((i : Int) + 1 + k) = ((i + 1 + k : Nat) : Int) := by omega
            rw [this]
            rfl
          · have := congrArg List.length hd
            rw [List.length_drop, List.length_cons] at this
            omega
          · rw [drop_at hd]
            exact hraw'
          · rw [hans, List.append_assoc]
          · intro b' o hb'
            refine k6 b' o (e5 b' o hb') ?_
            intro z
            rw [z, nt] at hb'
            cases hb'
      walk_at "go"
      refine w_ixL sq1 hat ?_
      walk_at "go"
      refine ⟨dC, esC, p, .ref rw', .ref rw', rfl, rfl, kdi, hfind, rfl, ?_⟩
      walk_at "go"
      refine ⟨rw', _, 0, .int k, rfl, rfl, hrow _, rfl, ?_⟩
      walk_at "go"
      refine w_ixL sq1 hat ?_
      walk_at "go"
      refine ite_d (fun hp0 => ?_) (fun hp0 => ?_)
      · -- start
        subst hp0
        have hk0 : k = 0 := by
          have := (TP.shape_cases hsh).2
          omega
        subst hk0
        walk_at "go"
        intro x dx nx ndx nex
        refine ⟨x, dx, rfl, upd_same, fun H2 pa2 k2 => ⟨rfl, ?_⟩⟩
        have e2 : Same H1 H2 := by
          intro b o hb
          refine k2 b o ?_ (ne_of_none hb nx)
          rw [upd_ne (ne_of_none hb nx), upd_ne (ne_of_none hb ndx)]
          exact hb
        have nx0 : H x = none := e1.free nx
        have ht2 := e2 _ _ ht
        walk_at "go"
        refine w_newL (by show 1 ≤ sizeLine; decide) fun b3 H3 e3 n3 h3 => ?_
        walk_at "go"
        refine ite_n (fun _ => ?_) (fun z => by cases z)
        walk_at "go"
        refine ⟨.ref rw', rfl, rw', _, 1, .ref fw, rfl, rfl, hrow _, rfl, fw, _, rfl, hSf, ?_⟩
        walk_at "go"
        refine w_slL (((e1.trans e2).trans e3).seq sq) (cut_at hd hk) fun b4 H4 e4 n4 h4 => ?_
        walk_at "go"
        show spOf C 0 0 _ _ _ _
        unfold spOf
        rw [if_pos rfl]
        refine ⟨_, _, rfl, fun b5 H5 e5 n5 h5 => ?_⟩
        have e25 := (e3.trans e4).trans e5
        have t4 := (e3.trans e4) _ _ ht2
        have pa5 := pa2.same e25
        refine fin (.ref x) H5 b5 ((e1.trans e2).trans e25) (e25 _ _ ht2) ?_ ?_ ?_
        · exact h5
        · intro z
          rw [z, t4] at n5
          cases n5
        · exact ⟨⟨fun _ z => (nomatch z), fun _ z => (nomatch z), fun _ _ _ z => (nomatch z)⟩, x, rfl, nx0, pa5⟩
      · walk_at "go"
        refine w_newL (by show 1 ≤ sizeLine; decide) fun b3 H3 e3 n3 h3 => ?_
        have ht3 := e3 _ _ ht
        walk_at "go"
        cases s with
        | none =>
          cases po
          refine ite_n (fun z => absurd rfl z) (fun _ => ?_)
          walk_at "go"
          have hs := hnone hp0
          refine fin .non H3 b3 (e1.trans e3) ht3 ?_ ?_ ?_
          · rw [hs]
            exact h3
          · intro z
            rw [z, ht] at n3
            cases n3
          · rw [hs]
            exact rfl
        | some st =>
          obtain ⟨sb, x, rfl, nx0, pa⟩ := po
          refine ite_n (fun _ => ?_) (fun z => by cases z)
          walk_at "go"
          refine ⟨.ref rw', rfl, rw', _, 1, .ref fw, rfl, rfl, hrow _, rfl, fw, _, rfl, hSf, ?_⟩
          walk_at "go"
          refine w_slL ((e1.trans e3).seq sq) (cut_at hd hk) fun b4 H4 e4 n4 h4 => ?_
          walk_at "go"
          show spOf C p k _ _ _ _
          unfold spOf
          rw [if_neg hp0]
          have pa4 := pa.same (e3.trans e4)
          have t4 := e4 _ _ ht3
          refine ⟨x, b4, st, r.take k, rfl, pa4, sb, h4, hxs, fun b5 H5 st' es k5 n5 pa5 sb5 h5 => ?_⟩
          obtain ⟨x', dx, _, _, _, _, _, ex, hx4, _⟩ := pa4.ex
          cases ex
          refine fin (.ref x) H5 b5 ?_ ?_ ?_ ?_ ?_
          · intro b o hb
            refine k5 b o (((e1.trans e3).trans e4) b o hb) ?_
            intro z
            rw [z, nx0] at hb
            cases hb
          · exact k5 _ _ t4 (ne_of t4 hx4 (by intro z; cases z))
          · exact h5
          · intro z
            rw [z, t4] at n5
            cases n5
          · have es' : (Kqy3Neutral.step (some st) [p :: r.take k]).1 = some st' := es
            rw [es']
            exact ⟨sb5, x, rfl, nx0, pa5⟩
    · -- the end
      have hie : i = ns.length := by omega
      subst hie
      rw [List.drop_length] at hraw
      obtain rfl := TP.calls_nil hraw
      have ea : PyKqy3.answers ns = told := by
        rw [hans]
        show told ++ [] = told
        rw [List.append_nil]
      walk_at "go"
      exact q H1 t (by rw [ea]; exact ht)
end
end TW
namespace TW
open PySem PySem.Spec PyProof.Rows L2 Kqy3
section
variable {P : Program} {w : World} {K : PySem.W.Frag} {mg : Str → Option Value} {base : Heap} {C : Addr}
theorem Cal.held {j : Nat} {name : Str} {sp : Sp} {f : Addr} (c : Cal P w K mg base j name sp) (g : mg name = some (.ref f)) (h : j ≤ 6) : Held P w K mg base 6 f sp := by
  obtain ⟨f2, fd, ps, F, kp, b, g2⟩ := c.ex
  obtain rfl : f2 = f := by
    rw [g] at g2
    cases g2
    rfl
  exact ⟨fd, ps, ⟨F.len, fun A outer s H args us vs Q E hr => F.run A outer s H args us vs Q E (hr.mono h)⟩, kp, b⟩
theorem row_sq {r : Addr} {dd : Option Addr} {k f : Value} {n : Nat} {sl : Array (Option Value)} {x y : V} (l : K.lookup r = some ⟨.type "tuple", dd, .seq #[k, f] n, sl⟩) (rx : RelV x k) (ry : RelV y f) (H : Hp) : SqT K H r [x, y] :=
  .inr ⟨_, _, _, l, rfl, rfl, (by show 2 ≤ sizeLine; decide), .cons rx (.cons ry .nil)⟩
end
theorem all_mk {P : Program} {w : World} {K : PySem.W.Frag} {h : Heap} {mg : Str → Option Value} {fa C dC f0 f1 f2 f3 f4 f5 f6 f7 f8 f9 f10 f11 f12 f13 f14 f15 f16 f17 f18 f19 f20 f21 f22 f23 f24 f25 f26 f27 f28 f29 f30 f31 f32 f33 f34 f35 f36 f37 f38 f39 f40 r0 r1 r2 r3 r4 r5 r6 r7 r8 r9 r10 r11 r12 r13 r14 : Addr} (X : K.In h) (G : h.Ns mainGlobals mg) (hfa : mg "answers" = some (.ref fa))
    {od0 an0 od1 an1 od2 an2 od3 an3 od4 an4 od5 an5 od6 an6 od7 an7 od8 an8 od9 an9 od10 an10 od11 an11 od12 an12 od13 an13 od14 an14 od15 an15 od16 an16 od17 an17 od18 an18 od19 an19 od20 an20 od21 an21 od22 an22 od23 an23 od24 an24 od25 an25 od26 an26 od27 an27 od28 an28 od29 an29 od30 an30 od31 an31 od32 an32 od33 an33 od34 an34 od35 an35 od36 an36 od37 an37 od38 an38 od39 an39 od40 an40 rd0 rd1 rd2 rd3 rd4 rd5 rd6 rd7 rd8 rd9 rd10 rd11 rd12 rd13 rd14 : Option Addr} {sl0 sl1 sl2 sl3 sl4 sl5 sl6 sl7 sl8 sl9 sl10 sl11 sl12 sl13 sl14 sl15 sl16 sl17 sl18 sl19 sl20 sl21 sl22 sl23 sl24 sl25 sl26 sl27 sl28 sl29 sl30 sl31 sl32 sl33 sl34 sl35 sl36 sl37 sl38 sl39 sl40 rs0 rs1 rs2 rs3 rs4 rs5 rs6 rs7 rs8 rs9 rs10 rs11 rs12 rs13 rs14 : Array (Option Value)} {oc0 kV0 dc0 pm0 cd0 ct0 oc1 kV1 dc1 pm1 cd1 ct1 oc2 kV2 dc2 pm2 cd2 ct2 oc3 kV3 dc3 pm3 cd3 ct3 oc4 kV4 dc4 pm4 cd4 ct4 oc5 kV5 dc5 pm5 cd5 ct5 oc6 kV6 dc6 pm6 cd6 ct6 oc7 kV7 dc7 pm7 cd7 ct7 oc8 kV8 dc8 pm8 cd8 ct8 oc9 kV9 dc9 pm9 cd9 ct9 oc10 kV10 dc10 pm10 cd10 ct10 oc11 kV11 dc11 pm11 cd11 ct11 oc12 kV12 dc12 pm12 cd12 ct12 oc13 kV13 dc13 pm13 cd13 ct13 oc14 kV14 dc14 pm14 cd14 ct14 oc15 kV15 dc15 pm15 cd15 ct15 oc16 kV16 dc16 pm16 cd16 ct16 oc17 kV17 dc17 pm17 cd17 ct17 oc18 kV18 dc18 pm18 cd18 ct18 oc19 kV19 dc19 pm19 cd19 ct19 oc20 kV20 dc20 pm20 cd20 ct20 oc21 kV21 dc21 pm21 cd21 ct21 oc22 kV22 dc22 pm22 cd22 ct22 oc23 kV23 dc23 pm23 cd23 ct23 oc24 kV24 dc24 pm24 cd24 ct24 oc25 kV25 dc25 pm25 cd25 ct25 oc26 kV26 dc26 pm26 cd26 ct26 oc27 kV27 dc27 pm27 cd27 ct27 oc28 kV28 dc28 pm28 cd28 ct28 oc29 kV29 dc29 pm29 cd29 ct29 oc30 kV30 dc30 pm30 cd30 ct30 oc31 kV31 dc31 pm31 cd31 ct31 oc32 kV32 dc32 pm32 cd32 ct32 oc33 kV33 dc33 pm33 cd33 ct33 oc34 kV34 dc34 pm34 cd34 ct34 oc35 kV35 dc35 pm35 cd35 ct35 oc36 kV36 dc36 pm36 cd36 ct36 oc37 kV37 dc37 pm37 cd37 ct37 oc38 kV38 dc38 pm38 cd38 ct38 oc39 kV39 dc39 pm39 cd39 ct39 oc40 kV40 dc40 pm40 cd40 ct40 : Value} {t0 t1 t2 t3 t4 t5 t6 rt0 rt1 rt2 rt3 rt4 rt5 rt6 rt7 rt8 rt9 rt10 rt11 rt12 rt13 rt14 : Tok} {es : Array DictEntry} {nD rn0 rn1 rn2 rn3 rn4 rn5 rn6 rn7 rn8 rn9 rn10 rn11 rn12 rn13 rn14 : Nat}
    (aC : PySem.W.nsIn K mainGlobals "Picture" = some (some (.ref C)))
    (a0 : PySem.W.nsIn K mainGlobals "greatest_shared" = some (some (.ref f0)))
    (l0 : K.lookup f0 = some ⟨oc0, od0, .func (PySem.W.fnOf "greatest_shared" "greatest_shared" (defArgs s_gcd) (defBody s_gcd) (defScope s_gcd) .none kV0 dc0 pm0 an0 cd0 ct0), sl0⟩)
    (c0 : PySem.W.codeIn K cd0 "greatest_shared" = true)
    (k0 : PySem.W.keepIn K (.ref f0) = true)
    (a1 : PySem.W.nsIn K mainGlobals "lowest" = some (some (.ref f1)))
    (l1 : K.lookup f1 = some ⟨oc1, od1, .func (PySem.W.fnOf "lowest" "lowest" (defArgs s_lowest) (defBody s_lowest) (defScope s_lowest) .none kV1 dc1 pm1 an1 cd1 ct1), sl1⟩)
    (c1 : PySem.W.codeIn K cd1 "lowest" = true)
    (k1 : PySem.W.keepIn K (.ref f1) = true)
    (a2 : PySem.W.nsIn K mainGlobals "excess" = some (some (.ref f2)))
    (l2 : K.lookup f2 = some ⟨oc2, od2, .func (PySem.W.fnOf "excess" "excess" (defArgs s_excess) (defBody s_excess) (defScope s_excess) .none kV2 dc2 pm2 an2 cd2 ct2), sl2⟩)
    (c2 : PySem.W.codeIn K cd2 "excess" = true)
    (k2 : PySem.W.keepIn K (.ref f2) = true)
    (a3 : PySem.W.nsIn K mainGlobals "makes" = some (some (.ref f3)))
    (l3 : K.lookup f3 = some ⟨oc3, od3, .func (PySem.W.fnOf "makes" "makes" (defArgs s_makes) (defBody s_makes) (defScope s_makes) .none kV3 dc3 pm3 an3 cd3 ct3), sl3⟩)
    (c3 : PySem.W.codeIn K cd3 "makes" = true)
    (k3 : PySem.W.keepIn K (.ref f3) = true)
    (a4 : PySem.W.nsIn K mainGlobals "cross" = some (some (.ref f4)))
    (l4 : K.lookup f4 = some ⟨oc4, od4, .func (PySem.W.fnOf "cross" "cross" (defArgs s_cross) (defBody s_cross) (defScope s_cross) .none kV4 dc4 pm4 an4 cd4 ct4), sl4⟩)
    (c4 : PySem.W.codeIn K cd4 "cross" = true)
    (k4 : PySem.W.keepIn K (.ref f4) = true)
    (a5 : PySem.W.nsIn K mainGlobals "is_same" = some (some (.ref f5)))
    (l5 : K.lookup f5 = some ⟨oc5, od5, .func (PySem.W.fnOf "is_same" "is_same" (defArgs s_is_same) (defBody s_is_same) (defScope s_is_same) .none kV5 dc5 pm5 an5 cd5 ct5), sl5⟩)
    (c5 : PySem.W.codeIn K cd5 "is_same" = true)
    (k5 : PySem.W.keepIn K (.ref f5) = true)
    (a6 : PySem.W.nsIn K mainGlobals "are_within" = some (some (.ref f6)))
    (l6 : K.lookup f6 = some ⟨oc6, od6, .func (PySem.W.fnOf "are_within" "are_within" (defArgs s_are_within) (defBody s_are_within) (defScope s_are_within) .none kV6 dc6 pm6 an6 cd6 ct6), sl6⟩)
    (c6 : PySem.W.codeIn K cd6 "are_within" = true)
    (k6 : PySem.W.keepIn K (.ref f6) = true)
    (a7 : PySem.W.nsIn K mainGlobals "are_seen" = some (some (.ref f7)))
    (l7 : K.lookup f7 = some ⟨oc7, od7, .func (PySem.W.fnOf "are_seen" "are_seen" (defArgs s_are_seen) (defBody s_are_seen) (defScope s_are_seen) .none kV7 dc7 pm7 an7 cd7 ct7), sl7⟩)
    (c7 : PySem.W.codeIn K cd7 "are_seen" = true)
    (k7 : PySem.W.keepIn K (.ref f7) = true)
    (a8 : PySem.W.nsIn K mainGlobals "is_height" = some (some (.ref f8)))
    (l8 : K.lookup f8 = some ⟨oc8, od8, .func (PySem.W.fnOf "is_height" "is_height" (defArgs s_is_height) (defBody s_is_height) (defScope s_is_height) .none kV8 dc8 pm8 an8 cd8 ct8), sl8⟩)
    (c8 : PySem.W.codeIn K cd8 "is_height" = true)
    (k8 : PySem.W.keepIn K (.ref f8) = true)
    (a9 : PySem.W.nsIn K mainGlobals "points_of" = some (some (.ref f9)))
    (l9 : K.lookup f9 = some ⟨oc9, od9, .func (PySem.W.fnOf "points_of" "points_of" (defArgs s_points_of) (defBody s_points_of) (defScope s_points_of) .none kV9 dc9 pm9 an9 cd9 ct9), sl9⟩)
    (c9 : PySem.W.codeIn K cd9 "points_of" = true)
    (k9 : PySem.W.keepIn K (.ref f9) = true)
    (a10 : PySem.W.nsIn K mainGlobals "one_if" = some (some (.ref f10)))
    (l10 : K.lookup f10 = some ⟨oc10, od10, .func (PySem.W.fnOf "one_if" "one_if" (defArgs s_one_if) (defBody s_one_if) (defScope s_one_if) .none kV10 dc10 pm10 an10 cd10 ct10), sl10⟩)
    (c10 : PySem.W.codeIn K cd10 "one_if" = true)
    (k10 : PySem.W.keepIn K (.ref f10) = true)
    (a11 : PySem.W.nsIn K mainGlobals "one_or_two" = some (some (.ref f11)))
    (l11 : K.lookup f11 = some ⟨oc11, od11, .func (PySem.W.fnOf "one_or_two" "one_or_two" (defArgs s_one_or_two) (defBody s_one_or_two) (defScope s_one_or_two) .none kV11 dc11 pm11 an11 cd11 ct11), sl11⟩)
    (c11 : PySem.W.codeIn K cd11 "one_or_two" = true)
    (k11 : PySem.W.keepIn K (.ref f11) = true)
    (a12 : PySem.W.nsIn K mainGlobals "tell_place" = some (some (.ref f12)))
    (l12 : K.lookup f12 = some ⟨oc12, od12, .func (PySem.W.fnOf "tell_place" "tell_place" (defArgs s_tell_place) (defBody s_tell_place) (defScope s_tell_place) .none kV12 dc12 pm12 an12 cd12 ct12), sl12⟩)
    (c12 : PySem.W.codeIn K cd12 "tell_place" = true)
    (k12 : PySem.W.keepIn K (.ref f12) = true)
    (a13 : PySem.W.nsIn K mainGlobals "answer_start" = some (some (.ref f13)))
    (l13 : K.lookup f13 = some ⟨oc13, od13, .func (PySem.W.fnOf "answer_start" "answer_start" (defArgs s_answer_start) (defBody s_answer_start) (defScope s_answer_start) .none kV13 dc13 pm13 an13 cd13 ct13), sl13⟩)
    (c13 : PySem.W.codeIn K cd13 "answer_start" = true)
    (k13 : PySem.W.keepIn K (.ref f13) = true)
    (a14 : PySem.W.nsIn K mainGlobals "answer_horizon" = some (some (.ref f14)))
    (l14 : K.lookup f14 = some ⟨oc14, od14, .func (PySem.W.fnOf "answer_horizon" "answer_horizon" (defArgs s_answer_horizon) (defBody s_answer_horizon) (defScope s_answer_horizon) .none kV14 dc14 pm14 an14 cd14 ct14), sl14⟩)
    (c14 : PySem.W.codeIn K cd14 "answer_horizon" = true)
    (k14 : PySem.W.keepIn K (.ref f14) = true)
    (a15 : PySem.W.nsIn K mainGlobals "answer_up" = some (some (.ref f15)))
    (l15 : K.lookup f15 = some ⟨oc15, od15, .func (PySem.W.fnOf "answer_up" "answer_up" (defArgs s_answer_up) (defBody s_answer_up) (defScope s_answer_up) .none kV15 dc15 pm15 an15 cd15 ct15), sl15⟩)
    (c15 : PySem.W.codeIn K cd15 "answer_up" = true)
    (k15 : PySem.W.keepIn K (.ref f15) = true)
    (a16 : PySem.W.nsIn K mainGlobals "answer_post" = some (some (.ref f16)))
    (l16 : K.lookup f16 = some ⟨oc16, od16, .func (PySem.W.fnOf "answer_post" "answer_post" (defArgs s_answer_post) (defBody s_answer_post) (defScope s_answer_post) .none kV16 dc16 pm16 an16 cd16 ct16), sl16⟩)
    (c16 : PySem.W.codeIn K cd16 "answer_post" = true)
    (k16 : PySem.W.keepIn K (.ref f16) = true)
    (a17 : PySem.W.nsIn K mainGlobals "answer_ready" = some (some (.ref f17)))
    (l17 : K.lookup f17 = some ⟨oc17, od17, .func (PySem.W.fnOf "answer_ready" "answer_ready" (defArgs s_answer_ready) (defBody s_answer_ready) (defScope s_answer_ready) .none kV17 dc17 pm17 an17 cd17 ct17), sl17⟩)
    (c17 : PySem.W.codeIn K cd17 "answer_ready" = true)
    (k17 : PySem.W.keepIn K (.ref f17) = true)
    (a18 : PySem.W.nsIn K mainGlobals "answer_height" = some (some (.ref f18)))
    (l18 : K.lookup f18 = some ⟨oc18, od18, .func (PySem.W.fnOf "answer_height" "answer_height" (defArgs s_answer_height) (defBody s_answer_height) (defScope s_answer_height) .none kV18 dc18 pm18 an18 cd18 ct18), sl18⟩)
    (c18 : PySem.W.codeIn K cd18 "answer_height" = true)
    (k18 : PySem.W.keepIn K (.ref f18) = true)
    (a19 : PySem.W.nsIn K mainGlobals "answer_eye" = some (some (.ref f19)))
    (l19 : K.lookup f19 = some ⟨oc19, od19, .func (PySem.W.fnOf "answer_eye" "answer_eye" (defArgs s_answer_eye) (defBody s_answer_eye) (defScope s_answer_eye) .none kV19 dc19 pm19 an19 cd19 ct19), sl19⟩)
    (c19 : PySem.W.codeIn K cd19 "answer_eye" = true)
    (k19 : PySem.W.keepIn K (.ref f19) = true)
    (a20 : PySem.W.nsIn K mainGlobals "answer_head" = some (some (.ref f20)))
    (l20 : K.lookup f20 = some ⟨oc20, od20, .func (PySem.W.fnOf "answer_head" "answer_head" (defArgs s_answer_head) (defBody s_answer_head) (defScope s_answer_head) .none kV20 dc20 pm20 an20 cd20 ct20), sl20⟩)
    (c20 : PySem.W.codeIn K cd20 "answer_head" = true)
    (k20 : PySem.W.keepIn K (.ref f20) = true)
    (a21 : PySem.W.nsIn K mainGlobals "answer_taller" = some (some (.ref f21)))
    (l21 : K.lookup f21 = some ⟨oc21, od21, .func (PySem.W.fnOf "answer_taller" "answer_taller" (defArgs s_answer_taller) (defBody s_answer_taller) (defScope s_answer_taller) .none kV21 dc21 pm21 an21 cd21 ct21), sl21⟩)
    (c21 : PySem.W.codeIn K cd21 "answer_taller" = true)
    (k21 : PySem.W.keepIn K (.ref f21) = true)
    (a22 : PySem.W.nsIn K mainGlobals "answer_side" = some (some (.ref f22)))
    (l22 : K.lookup f22 = some ⟨oc22, od22, .func (PySem.W.fnOf "answer_side" "answer_side" (defArgs s_answer_side) (defBody s_answer_side) (defScope s_answer_side) .none kV22 dc22 pm22 an22 cd22 ct22), sl22⟩)
    (c22 : PySem.W.codeIn K cd22 "answer_side" = true)
    (k22 : PySem.W.keepIn K (.ref f22) = true)
    (a23 : PySem.W.nsIn K mainGlobals "answer_like" = some (some (.ref f23)))
    (l23 : K.lookup f23 = some ⟨oc23, od23, .func (PySem.W.fnOf "answer_like" "answer_like" (defArgs s_answer_like) (defBody s_answer_like) (defScope s_answer_like) .none kV23 dc23 pm23 an23 cd23 ct23), sl23⟩)
    (c23 : PySem.W.codeIn K cd23 "answer_like" = true)
    (k23 : PySem.W.keepIn K (.ref f23) = true)
    (a24 : PySem.W.nsIn K mainGlobals "answer_rule" = some (some (.ref f24)))
    (l24 : K.lookup f24 = some ⟨oc24, od24, .func (PySem.W.fnOf "answer_rule" "answer_rule" (defArgs s_answer_rule) (defBody s_answer_rule) (defScope s_answer_rule) .none kV24 dc24 pm24 an24 cd24 ct24), sl24⟩)
    (c24 : PySem.W.codeIn K cd24 "answer_rule" = true)
    (k24 : PySem.W.keepIn K (.ref f24) = true)
    (a25 : PySem.W.nsIn K mainGlobals "answer_stands" = some (some (.ref f25)))
    (l25 : K.lookup f25 = some ⟨oc25, od25, .func (PySem.W.fnOf "answer_stands" "answer_stands" (defArgs s_answer_stands) (defBody s_answer_stands) (defScope s_answer_stands) .none kV25 dc25 pm25 an25 cd25 ct25), sl25⟩)
    (c25 : PySem.W.codeIn K cd25 "answer_stands" = true)
    (k25 : PySem.W.keepIn K (.ref f25) = true)
    (a26 : PySem.W.nsIn K mainGlobals "answer_meet" = some (some (.ref f26)))
    (l26 : K.lookup f26 = some ⟨oc26, od26, .func (PySem.W.fnOf "answer_meet" "answer_meet" (defArgs s_answer_meet) (defBody s_answer_meet) (defScope s_answer_meet) .none kV26 dc26 pm26 an26 cd26 ct26), sl26⟩)
    (c26 : PySem.W.codeIn K cd26 "answer_meet" = true)
    (k26 : PySem.W.keepIn K (.ref f26) = true)
    (a27 : PySem.W.nsIn K mainGlobals "answer_state" = some (some (.ref f27)))
    (l27 : K.lookup f27 = some ⟨oc27, od27, .func (PySem.W.fnOf "answer_state" "answer_state" (defArgs s_answer_state) (defBody s_answer_state) (defScope s_answer_state) .none kV27 dc27 pm27 an27 cd27 ct27), sl27⟩)
    (c27 : PySem.W.codeIn K cd27 "answer_state" = true)
    (k27 : PySem.W.keepIn K (.ref f27) = true)
    (a28 : PySem.W.nsIn K mainGlobals "answers" = some (some (.ref f28)))
    (l28 : K.lookup f28 = some ⟨oc28, od28, .func (PySem.W.fnOf "answers" "answers" (defArgs s_answers) (defBody s_answers) (defScope s_answers) .none kV28 dc28 pm28 an28 cd28 ct28), sl28⟩)
    (c28 : PySem.W.codeIn K cd28 "answers" = true)
    (k28 : PySem.W.keepIn K (.ref f28) = true)
    (a29 : PySem.W.findIn K (.ref C) "__init__" = some (some (.ref f29)))
    (i29 : PySem.W.isFn K (.ref f29) = true)
    (l29 : K.lookup f29 = some ⟨oc29, od29, .func (PySem.W.fnOf "__init__" "Picture.__init__" (defArgs s_init) (defBody s_init) (defScope s_init) .none kV29 dc29 pm29 an29 cd29 ct29), sl29⟩)
    (c29 : PySem.W.codeIn K cd29 "Picture.__init__" = true)
    (k29 : PySem.W.keepIn K (.ref f29) = true)
    (a30 : PySem.W.findIn K (.ref C) "is_ready" = some (some (.ref f30)))
    (i30 : PySem.W.isFn K (.ref f30) = true)
    (l30 : K.lookup f30 = some ⟨oc30, od30, .func (PySem.W.fnOf "is_ready" "Picture.is_ready" (defArgs s_is_ready) (defBody s_is_ready) (defScope s_is_ready) .none kV30 dc30 pm30 an30 cd30 ct30), sl30⟩)
    (c30 : PySem.W.codeIn K cd30 "Picture.is_ready" = true)
    (k30 : PySem.W.keepIn K (.ref f30) = true)
    (a31 : PySem.W.findIn K (.ref C) "can_bear" = some (some (.ref f31)))
    (i31 : PySem.W.isFn K (.ref f31) = true)
    (l31 : K.lookup f31 = some ⟨oc31, od31, .func (PySem.W.fnOf "can_bear" "Picture.can_bear" (defArgs s_can_bear) (defBody s_can_bear) (defScope s_can_bear) .none kV31 dc31 pm31 an31 cd31 ct31), sl31⟩)
    (c31 : PySem.W.codeIn K cd31 "Picture.can_bear" = true)
    (k31 : PySem.W.keepIn K (.ref f31) = true)
    (a32 : PySem.W.findIn K (.ref C) "is_standing" = some (some (.ref f32)))
    (i32 : PySem.W.isFn K (.ref f32) = true)
    (l32 : K.lookup f32 = some ⟨oc32, od32, .func (PySem.W.fnOf "is_standing" "Picture.is_standing" (defArgs s_is_standing) (defBody s_is_standing) (defScope s_is_standing) .none kV32 dc32 pm32 an32 cd32 ct32), sl32⟩)
    (c32 : PySem.W.codeIn K cd32 "Picture.is_standing" = true)
    (k32 : PySem.W.keepIn K (.ref f32) = true)
    (a33 : PySem.W.findIn K (.ref C) "rise" = some (some (.ref f33)))
    (i33 : PySem.W.isFn K (.ref f33) = true)
    (l33 : K.lookup f33 = some ⟨oc33, od33, .func (PySem.W.fnOf "rise" "Picture.rise" (defArgs s_rise) (defBody s_rise) (defScope s_rise) .none kV33 dc33 pm33 an33 cd33 ct33), sl33⟩)
    (c33 : PySem.W.codeIn K cd33 "Picture.rise" = true)
    (k33 : PySem.W.keepIn K (.ref f33) = true)
    (a34 : PySem.W.findIn K (.ref C) "scale" = some (some (.ref f34)))
    (i34 : PySem.W.isFn K (.ref f34) = true)
    (l34 : K.lookup f34 = some ⟨oc34, od34, .func (PySem.W.fnOf "scale" "Picture.scale" (defArgs s_scale) (defBody s_scale) (defScope s_scale) .none kV34 dc34 pm34 an34 cd34 ct34), sl34⟩)
    (c34 : PySem.W.codeIn K cd34 "Picture.scale" = true)
    (k34 : PySem.W.keepIn K (.ref f34) = true)
    (a35 : PySem.W.findIn K (.ref C) "measure" = some (some (.ref f35)))
    (i35 : PySem.W.isFn K (.ref f35) = true)
    (l35 : K.lookup f35 = some ⟨oc35, od35, .func (PySem.W.fnOf "measure" "Picture.measure" (defArgs s_measure) (defBody s_measure) (defScope s_measure) .none kV35 dc35 pm35 an35 cd35 ct35), sl35⟩)
    (c35 : PySem.W.codeIn K cd35 "Picture.measure" = true)
    (k35 : PySem.W.keepIn K (.ref f35) = true)
    (a36 : PySem.W.findIn K (.ref C) "eye_height" = some (some (.ref f36)))
    (i36 : PySem.W.isFn K (.ref f36) = true)
    (l36 : K.lookup f36 = some ⟨oc36, od36, .func (PySem.W.fnOf "eye_height" "Picture.eye_height" (defArgs s_eye_height) (defBody s_eye_height) (defScope s_eye_height) .none kV36 dc36 pm36 an36 cd36 ct36), sl36⟩)
    (c36 : PySem.W.codeIn K cd36 "Picture.eye_height" = true)
    (k36 : PySem.W.keepIn K (.ref f36) = true)
    (a37 : PySem.W.findIn K (.ref C) "post_height_by" = some (some (.ref f37)))
    (i37 : PySem.W.isFn K (.ref f37) = true)
    (l37 : K.lookup f37 = some ⟨oc37, od37, .func (PySem.W.fnOf "post_height_by" "Picture.post_height_by" (defArgs s_post_height_by) (defBody s_post_height_by) (defScope s_post_height_by) .none kV37 dc37 pm37 an37 cd37 ct37), sl37⟩)
    (c37 : PySem.W.codeIn K cd37 "Picture.post_height_by" = true)
    (k37 : PySem.W.keepIn K (.ref f37) = true)
    (a38 : PySem.W.findIn K (.ref C) "side" = some (some (.ref f38)))
    (i38 : PySem.W.isFn K (.ref f38) = true)
    (l38 : K.lookup f38 = some ⟨oc38, od38, .func (PySem.W.fnOf "side" "Picture.side" (defArgs s_side) (defBody s_side) (defScope s_side) .none kV38 dc38 pm38 an38 cd38 ct38), sl38⟩)
    (c38 : PySem.W.codeIn K cd38 "Picture.side" = true)
    (k38 : PySem.W.keepIn K (.ref f38) = true)
    (a39 : PySem.W.findIn K (.ref C) "meet" = some (some (.ref f39)))
    (i39 : PySem.W.isFn K (.ref f39) = true)
    (l39 : K.lookup f39 = some ⟨oc39, od39, .func (PySem.W.fnOf "meet" "Picture.meet" (defArgs s_meet) (defBody s_meet) (defScope s_meet) .none kV39 dc39 pm39 an39 cd39 ct39), sl39⟩)
    (c39 : PySem.W.codeIn K cd39 "Picture.meet" = true)
    (k39 : PySem.W.keepIn K (.ref f39) = true)
    (a40 : PySem.W.findIn K (.ref C) "place_head" = some (some (.ref f40)))
    (i40 : PySem.W.isFn K (.ref f40) = true)
    (l40 : K.lookup f40 = some ⟨oc40, od40, .func (PySem.W.fnOf "place_head" "Picture.place_head" (defArgs s_place_head) (defBody s_place_head) (defScope s_place_head) .none kV40 dc40 pm40 an40 cd40 ct40), sl40⟩)
    (c40 : PySem.W.codeIn K cd40 "Picture.place_head" = true)
    (k40 : PySem.W.keepIn K (.ref f40) = true)
    (pg : PySem.W.plainGet K C Str.empty = true)
    (hd : PySem.W.hasDictIn K C = true)
    (po : PySem.W.plainOver K C = true)
    (sa : PySem.W.findIn K (.ref C) "__setattr__" = some (some (.builtin "object.__setattr__")))
    (mk : PySem.W.makesIn K C = true)
    (kc : PySem.W.keepIn K (.ref C) = true)
    (n0 : PySem.W.findIn K (.ref C) "horizon" = some none)
    (n1 : PySem.W.findIn K (.ref C) "up" = some none)
    (n2 : PySem.W.findIn K (.ref C) "post_foot" = some none)
    (n3 : PySem.W.findIn K (.ref C) "post_head" = some none)
    (n4 : PySem.W.findIn K (.ref C) "post_height" = some none)
    (z_abs : PySem.W.nsIn K mainGlobals "abs" = some none)
    (z_len : PySem.W.nsIn K mainGlobals "len" = some none)
    (z_list : PySem.W.nsIn K mainGlobals "list" = some none)
    (z_tuple : PySem.W.nsIn K mainGlobals "tuple" = some none)
    (z_range : PySem.W.nsIn K mainGlobals "range" = some none)
    (gk0 : PySem.W.nsIn K mainGlobals "NOT_STARTED" = some (some (.int (-11) t0)))
    (gk1 : PySem.W.nsIn K mainGlobals "OUT_OF_RANGE" = some (some (.int (-22) t1)))
    (gk2 : PySem.W.nsIn K mainGlobals "SAME_POINT" = some (some (.int (-17) t2)))
    (gk3 : PySem.W.nsIn K mainGlobals "NOT_READY" = some (some (.int (-16) t3)))
    (gk4 : PySem.W.nsIn K mainGlobals "NOT_STANDING" = some (some (.int (-33) t4)))
    (gk5 : PySem.W.nsIn K mainGlobals "BEYOND_ALL" = some (some (.int (-6) t5)))
    (gk6 : PySem.W.nsIn K mainGlobals "START" = some (some (.int (0) t6)))
    (aD : PySem.W.nsIn K mainGlobals "CALLS" = some (some (.ref dC)))
    (lD : K.lookup dC = some ⟨.type "dict", none, .dict es nD, #[]⟩)
    (kD : KeysInt w P es.toList)
    (q0 : findBy Value.isInt es 0 = some (.ref r0))
    (lr0 : K.lookup r0 = some ⟨.type "tuple", rd0, .seq #[.int 0 rt0, .ref f13] rn0, rs0⟩)
    (q1 : findBy Value.isInt es 1 = some (.ref r1))
    (lr1 : K.lookup r1 = some ⟨.type "tuple", rd1, .seq #[.int 3 rt1, .ref f14] rn1, rs1⟩)
    (q2 : findBy Value.isInt es 2 = some (.ref r2))
    (lr2 : K.lookup r2 = some ⟨.type "tuple", rd2, .seq #[.int 3 rt2, .ref f15] rn2, rs2⟩)
    (q3 : findBy Value.isInt es 3 = some (.ref r3))
    (lr3 : K.lookup r3 = some ⟨.type "tuple", rd3, .seq #[.int 5 rt3, .ref f16] rn3, rs3⟩)
    (q4 : findBy Value.isInt es 4 = some (.ref r4))
    (lr4 : K.lookup r4 = some ⟨.type "tuple", rd4, .seq #[.int 0 rt4, .ref f17] rn4, rs4⟩)
    (q5 : findBy Value.isInt es 5 = some (.ref r5))
    (lr5 : K.lookup r5 = some ⟨.type "tuple", rd5, .seq #[.int 4 rt5, .ref f18] rn5, rs5⟩)
    (q6 : findBy Value.isInt es 6 = some (.ref r6))
    (lr6 : K.lookup r6 = some ⟨.type "tuple", rd6, .seq #[.int 0 rt6, .ref f19] rn6, rs6⟩)
    (q7 : findBy Value.isInt es 7 = some (.ref r7))
    (lr7 : K.lookup r7 = some ⟨.type "tuple", rd7, .seq #[.int 4 rt7, .ref f20] rn7, rs7⟩)
    (q8 : findBy Value.isInt es 8 = some (.ref r8))
    (lr8 : K.lookup r8 = some ⟨.type "tuple", rd8, .seq #[.int 8 rt8, .ref f21] rn8, rs8⟩)
    (q9 : findBy Value.isInt es 9 = some (.ref r9))
    (lr9 : K.lookup r9 = some ⟨.type "tuple", rd9, .seq #[.int 2 rt9, .ref f22] rn9, rs9⟩)
    (q10 : findBy Value.isInt es 10 = some (.ref r10))
    (lr10 : K.lookup r10 = some ⟨.type "tuple", rd10, .seq #[.int 6 rt10, .ref f23] rn10, rs10⟩)
    (q11 : findBy Value.isInt es 11 = some (.ref r11))
    (lr11 : K.lookup r11 = some ⟨.type "tuple", rd11, .seq #[.int 5 rt11, .ref f24] rn11, rs11⟩)
    (q12 : findBy Value.isInt es 12 = some (.ref r12))
    (lr12 : K.lookup r12 = some ⟨.type "tuple", rd12, .seq #[.int 4 rt12, .ref f25] rn12, rs12⟩)
    (q13 : findBy Value.isInt es 13 = some (.ref r13))
    (lr13 : K.lookup r13 = some ⟨.type "tuple", rd13, .seq #[.int 4 rt13, .ref f26] rn13, rs13⟩)
    (q14 : findBy Value.isInt es 14 = some (.ref r14))
    (lr14 : K.lookup r14 = some ⟨.type "tuple", rd14, .seq #[.int 0 rt14, .ref f27] rn14, rs14⟩)
    : ∃ fd : FuncData, (∀ (s : Shared) (us : List Value), us.length = (["calls"] : List Str).length → BindsTo s fd ⟨us, []⟩ ((["calls"] : List Str).zip us)) ∧ ∀ base : Heap, K.In base → base.Ns mainGlobals mg → FnOk P w K mg base CX0 8 fa fd ["calls"] (sp_answers K) := by
  have e := hfa.symm.trans (PySem.W.mg_of X G a28)
  cases e
  have T : Txt K mg C := ⟨⟨⟨pg, hd, po, sa⟩, n0, n1, n2, n3, n4⟩, PySem.W.mg_of X G aC, PySem.W.mg_none_of X G z_abs, PySem.W.mg_none_of X G z_len, PySem.W.mg_none_of X G z_list, PySem.W.mg_none_of X G z_tuple, PySem.W.mg_none_of X G z_range, ⟨_, PySem.W.mg_of X G gk0⟩, ⟨_, PySem.W.mg_of X G gk1⟩, ⟨_, PySem.W.mg_of X G gk3⟩, ⟨_, PySem.W.mg_of X G gk4⟩, ⟨_, PySem.W.mg_of X G gk5⟩, ⟨_, PySem.W.mg_of X G gk6⟩, ⟨_, PySem.W.mg_of X G gk2⟩⟩
  have F0 := fun_mk (st := s_gcd) l0 c0 k0
  have b0 := F0.binds (ps := ["first", "second"]) fun _ _ _ _ _ _ us hl => match us, hl with | [_, _], _ => rfl
  have F1 := fun_mk (st := s_lowest) l1 c1 k1
  have b1 := F1.binds (ps := ["above", "below"]) fun _ _ _ _ _ _ us hl => match us, hl with | [_, _], _ => rfl
  have F2 := fun_mk (st := s_excess) l2 c2 k2
  have b2 := F2.binds (ps := ["first", "second"]) fun _ _ _ _ _ _ us hl => match us, hl with | [_, _], _ => rfl
  have F3 := fun_mk (st := s_makes) l3 c3 k3
  have b3 := F3.binds (ps := ["line", "point"]) fun _ _ _ _ _ _ us hl => match us, hl with | [_, _], _ => rfl
  have F4 := fun_mk (st := s_cross) l4 c4 k4
  have b4 := F4.binds (ps := ["first", "second"]) fun _ _ _ _ _ _ us hl => match us, hl with | [_, _], _ => rfl
  have F5 := fun_mk (st := s_is_same) l5 c5 k5
  have b5 := F5.binds (ps := ["first", "second"]) fun _ _ _ _ _ _ us hl => match us, hl with | [_, _], _ => rfl
  have F6 := fun_mk (st := s_are_within) l6 c6 k6
  have b6 := F6.binds (ps := ["numbers", "least", "most"]) fun _ _ _ _ _ _ us hl => match us, hl with | [_, _, _], _ => rfl
  have F7 := fun_mk (st := s_are_seen) l7 c7 k7
  have b7 := F7.binds (ps := ["numbers"]) fun _ _ _ _ _ _ us hl => match us, hl with | [_], _ => rfl
  have F8 := fun_mk (st := s_is_height) l8 c8 k8
  have b8 := F8.binds (ps := ["number"]) fun _ _ _ _ _ _ us hl => match us, hl with | [_], _ => rfl
  have F9 := fun_mk (st := s_points_of) l9 c9 k9
  have b9 := F9.binds (ps := ["numbers"]) fun _ _ _ _ _ _ us hl => match us, hl with | [_], _ => rfl
  have F10 := fun_mk (st := s_one_if) l10 c10 k10
  have b10 := F10.binds (ps := ["truth"]) fun _ _ _ _ _ _ us hl => match us, hl with | [_], _ => rfl
  have F11 := fun_mk (st := s_one_or_two) l11 c11 k11
  have b11 := F11.binds (ps := ["balance"]) fun _ _ _ _ _ _ us hl => match us, hl with | [_], _ => rfl
  have F12 := fun_mk (st := s_tell_place) l12 c12 k12
  have b12 := F12.binds (ps := ["point"]) fun _ _ _ _ _ _ us hl => match us, hl with | [_], _ => rfl
  have F13 := fun_mk (st := s_answer_start) l13 c13 k13
  have b13 := F13.binds (ps := ["picture", "numbers"]) fun _ _ _ _ _ _ us hl => match us, hl with | [_, _], _ => rfl
  have F14 := fun_mk (st := s_answer_horizon) l14 c14 k14
  have b14 := F14.binds (ps := ["picture", "numbers"]) fun _ _ _ _ _ _ us hl => match us, hl with | [_, _], _ => rfl
  have F15 := fun_mk (st := s_answer_up) l15 c15 k15
  have b15 := F15.binds (ps := ["picture", "numbers"]) fun _ _ _ _ _ _ us hl => match us, hl with | [_, _], _ => rfl
  have F16 := fun_mk (st := s_answer_post) l16 c16 k16
  have b16 := F16.binds (ps := ["picture", "numbers"]) fun _ _ _ _ _ _ us hl => match us, hl with | [_, _], _ => rfl
  have F17 := fun_mk (st := s_answer_ready) l17 c17 k17
  have b17 := F17.binds (ps := ["picture", "numbers"]) fun _ _ _ _ _ _ us hl => match us, hl with | [_, _], _ => rfl
  have F18 := fun_mk (st := s_answer_height) l18 c18 k18
  have b18 := F18.binds (ps := ["picture", "numbers"]) fun _ _ _ _ _ _ us hl => match us, hl with | [_, _], _ => rfl
  have F19 := fun_mk (st := s_answer_eye) l19 c19 k19
  have b19 := F19.binds (ps := ["picture", "numbers"]) fun _ _ _ _ _ _ us hl => match us, hl with | [_, _], _ => rfl
  have F20 := fun_mk (st := s_answer_head) l20 c20 k20
  have b20 := F20.binds (ps := ["picture", "numbers"]) fun _ _ _ _ _ _ us hl => match us, hl with | [_, _], _ => rfl
  have F21 := fun_mk (st := s_answer_taller) l21 c21 k21
  have b21 := F21.binds (ps := ["picture", "numbers"]) fun _ _ _ _ _ _ us hl => match us, hl with | [_, _], _ => rfl
  have F22 := fun_mk (st := s_answer_side) l22 c22 k22
  have b22 := F22.binds (ps := ["picture", "numbers"]) fun _ _ _ _ _ _ us hl => match us, hl with | [_, _], _ => rfl
  have F23 := fun_mk (st := s_answer_like) l23 c23 k23
  have b23 := F23.binds (ps := ["picture", "numbers"]) fun _ _ _ _ _ _ us hl => match us, hl with | [_, _], _ => rfl
  have F24 := fun_mk (st := s_answer_rule) l24 c24 k24
  have b24 := F24.binds (ps := ["picture", "numbers"]) fun _ _ _ _ _ _ us hl => match us, hl with | [_, _], _ => rfl
  have F25 := fun_mk (st := s_answer_stands) l25 c25 k25
  have b25 := F25.binds (ps := ["picture", "numbers"]) fun _ _ _ _ _ _ us hl => match us, hl with | [_, _], _ => rfl
  have F26 := fun_mk (st := s_answer_meet) l26 c26 k26
  have b26 := F26.binds (ps := ["picture", "numbers"]) fun _ _ _ _ _ _ us hl => match us, hl with | [_, _], _ => rfl
  have F27 := fun_mk (st := s_answer_state) l27 c27 k27
  have b27 := F27.binds (ps := ["picture", "numbers"]) fun _ _ _ _ _ _ us hl => match us, hl with | [_, _], _ => rfl
  have F28 := fun_mk (st := s_answers) l28 c28 k28
  have F29 := fun_mk (st := s_init) l29 c29 k29
  have b29 := F29.binds (ps := ["self"]) fun _ _ _ _ _ _ us hl => match us, hl with | [_], _ => rfl
  have F30 := fun_mk (st := s_is_ready) l30 c30 k30
  have b30 := F30.binds (ps := ["self"]) fun _ _ _ _ _ _ us hl => match us, hl with | [_], _ => rfl
  have F31 := fun_mk (st := s_can_bear) l31 c31 k31
  have b31 := F31.binds (ps := ["self", "foot"]) fun _ _ _ _ _ _ us hl => match us, hl with | [_, _], _ => rfl
  have F32 := fun_mk (st := s_is_standing) l32 c32 k32
  have b32 := F32.binds (ps := ["self", "foot", "head"]) fun _ _ _ _ _ _ us hl => match us, hl with | [_, _, _], _ => rfl
  have F33 := fun_mk (st := s_rise) l33 c33 k33
  have b33 := F33.binds (ps := ["self", "foot", "head"]) fun _ _ _ _ _ _ us hl => match us, hl with | [_, _, _], _ => rfl
  have F34 := fun_mk (st := s_scale) l34 c34 k34
  have b34 := F34.binds (ps := ["self"]) fun _ _ _ _ _ _ us hl => match us, hl with | [_], _ => rfl
  have F35 := fun_mk (st := s_measure) l35 c35 k35
  have b35 := F35.binds (ps := ["self", "foot", "head"]) fun _ _ _ _ _ _ us hl => match us, hl with | [_, _, _], _ => rfl
  have F36 := fun_mk (st := s_eye_height) l36 c36 k36
  have b36 := F36.binds (ps := ["self"]) fun _ _ _ _ _ _ us hl => match us, hl with | [_], _ => rfl
  have F37 := fun_mk (st := s_post_height_by) l37 c37 k37
  have b37 := F37.binds (ps := ["self", "foot", "head", "height"]) fun _ _ _ _ _ _ us hl => match us, hl with | [_, _, _, _], _ => rfl
  have F38 := fun_mk (st := s_side) l38 c38 k38
  have b38 := F38.binds (ps := ["self", "point"]) fun _ _ _ _ _ _ us hl => match us, hl with | [_, _], _ => rfl
  have F39 := fun_mk (st := s_meet) l39 c39 k39
  have b39 := F39.binds (ps := ["self", "first", "second"]) fun _ _ _ _ _ _ us hl => match us, hl with | [_, _, _], _ => rfl
  have F40 := fun_mk (st := s_place_head) l40 c40 k40
  have b40 := F40.binds (ps := ["self", "foot", "above", "below"]) fun _ _ _ _ _ _ us hl => match us, hl with | [_, _, _, _], _ => rfl
  refine ⟨PySem.W.fnOf "answers" "answers" (defArgs s_answers) (defBody s_answers) (defScope s_answers) .none kV28 dc28 pm28 an28 cd28 ct28, fun s us hu => match us, hu with | [_], _ => .of_eq rfl, fun base _ _ => ?_⟩
  have d_greatest_shared := ok_gcd (P := P) (w := w) (K := K) (mg := mg) (base := base) (C := C) T ⟨⟨_, _, F0, b0, PySem.W.mg_of X G a0⟩⟩
  have d_lowest := ok_lowest (P := P) (w := w) (K := K) (mg := mg) (base := base)  ⟨⟨_, _, F1, b1, PySem.W.mg_of X G a1⟩⟩ d_greatest_shared
  have d_excess := ok_excess (P := P) (w := w) (K := K) (mg := mg) (base := base)  ⟨⟨_, _, F2, b2, PySem.W.mg_of X G a2⟩⟩
  have d_makes := ok_makes (P := P) (w := w) (K := K) (mg := mg) (base := base)  ⟨⟨_, _, F3, b3, PySem.W.mg_of X G a3⟩⟩
  have d_cross := ok_cross (P := P) (w := w) (K := K) (mg := mg) (base := base)  ⟨⟨_, _, F4, b4, PySem.W.mg_of X G a4⟩⟩
  have d_is_same := ok_is_same (P := P) (w := w) (K := K) (mg := mg) (base := base)  ⟨⟨_, _, F5, b5, PySem.W.mg_of X G a5⟩⟩ d_cross
  have d_can_bear := ok_can_bear (P := P) (w := w) (K := K) (mg := mg) (base := base) (C := C) T ⟨⟨_, _, F31, b31, ⟨a31, i31, k31⟩⟩⟩ d_makes d_is_same
  have d_is_standing := ok_is_standing (P := P) (w := w) (K := K) (mg := mg) (base := base) (C := C) T ⟨⟨_, _, F32, b32, ⟨a32, i32, k32⟩⟩⟩ d_makes d_cross d_is_same d_can_bear
  have d_is_ready := ok_is_ready (P := P) (w := w) (K := K) (mg := mg) (base := base) (C := C) T ⟨⟨_, _, F30, b30, ⟨a30, i30, k30⟩⟩⟩ d_makes d_is_same d_is_standing
  have d_rise := ok_rise (P := P) (w := w) (K := K) (mg := mg) (base := base) (C := C) T ⟨⟨_, _, F33, b33, ⟨a33, i33, k33⟩⟩⟩
  have d_scale := ok_scale (P := P) (w := w) (K := K) (mg := mg) (base := base) (C := C) T ⟨⟨_, _, F34, b34, ⟨a34, i34, k34⟩⟩⟩ d_makes d_rise
  have d_measure := ok_measure (P := P) (w := w) (K := K) (mg := mg) (base := base) (C := C) T ⟨⟨_, _, F35, b35, ⟨a35, i35, k35⟩⟩⟩ d_makes d_lowest d_rise d_scale
  have d_eye_height := ok_eye_height (P := P) (w := w) (K := K) (mg := mg) (base := base) (C := C) T ⟨⟨_, _, F36, b36, ⟨a36, i36, k36⟩⟩⟩ d_makes d_lowest d_scale
  have d_place_head := ok_place_head (P := P) (w := w) (K := K) (mg := mg) (base := base) (C := C) T ⟨⟨_, _, F40, b40, ⟨a40, i40, k40⟩⟩⟩ d_makes d_scale
  have d_post_height_by := ok_post_height_by (P := P) (w := w) (K := K) (mg := mg) (base := base) (C := C) T ⟨⟨_, _, F37, b37, ⟨a37, i37, k37⟩⟩⟩ d_lowest d_measure
  have d_side := ok_side (P := P) (w := w) (K := K) (mg := mg) (base := base) (C := C) T ⟨⟨_, _, F38, b38, ⟨a38, i38, k38⟩⟩⟩ d_makes
  have d_meet := ok_meet (P := P) (w := w) (K := K) (mg := mg) (base := base) (C := C) T ⟨⟨_, _, F39, b39, ⟨a39, i39, k39⟩⟩⟩ d_cross
  have d_are_within := ok_are_within (P := P) (w := w) (K := K) (mg := mg) (base := base)  ⟨⟨_, _, F6, b6, PySem.W.mg_of X G a6⟩⟩
  have d_are_seen := ok_are_seen (P := P) (w := w) (K := K) (mg := mg) (base := base)  ⟨⟨_, _, F7, b7, PySem.W.mg_of X G a7⟩⟩ d_are_within
  have d_is_height := ok_is_height (P := P) (w := w) (K := K) (mg := mg) (base := base)  ⟨⟨_, _, F8, b8, PySem.W.mg_of X G a8⟩⟩ d_are_within
  have d_points_of := ok_points_of (P := P) (w := w) (K := K) (mg := mg) (base := base) (C := C) T ⟨⟨_, _, F9, b9, PySem.W.mg_of X G a9⟩⟩
  have d_one_if := ok_one_if (P := P) (w := w) (K := K) (mg := mg) (base := base)  ⟨⟨_, _, F10, b10, PySem.W.mg_of X G a10⟩⟩
  have d_one_or_two := ok_one_or_two (P := P) (w := w) (K := K) (mg := mg) (base := base)  ⟨⟨_, _, F11, b11, PySem.W.mg_of X G a11⟩⟩
  have d_tell_place := ok_tell_place (P := P) (w := w) (K := K) (mg := mg) (base := base) (C := C) T ⟨⟨_, _, F12, b12, PySem.W.mg_of X G a12⟩⟩ d_lowest
  have d_answer_start := ok_answer_start (P := P) (w := w) (K := K) (mg := mg) (base := base)  ⟨⟨_, _, F13, b13, PySem.W.mg_of X G a13⟩⟩
  have d_answer_horizon := ok_answer_horizon (P := P) (w := w) (K := K) (mg := mg) (base := base) (C := C) T ⟨⟨_, _, F14, b14, PySem.W.mg_of X G a14⟩⟩ d_are_within
  have d_answer_up := ok_answer_up (P := P) (w := w) (K := K) (mg := mg) (base := base) (C := C) T ⟨⟨_, _, F15, b15, PySem.W.mg_of X G a15⟩⟩ d_are_within
  have d_answer_post := ok_answer_post (P := P) (w := w) (K := K) (mg := mg) (base := base) (C := C) T ⟨⟨_, _, F16, b16, PySem.W.mg_of X G a16⟩⟩ d_are_seen d_is_height d_points_of
  have d_answer_ready := ok_answer_ready (P := P) (w := w) (K := K) (mg := mg) (base := base) (C := C) T ⟨⟨_, _, F17, b17, PySem.W.mg_of X G a17⟩⟩ d_one_if d_is_ready
  have d_answer_height := ok_answer_height (P := P) (w := w) (K := K) (mg := mg) (base := base) (C := C) T ⟨⟨_, _, F18, b18, PySem.W.mg_of X G a18⟩⟩ d_are_seen d_points_of d_is_ready d_is_standing d_measure
  have d_answer_eye := ok_answer_eye (P := P) (w := w) (K := K) (mg := mg) (base := base) (C := C) T ⟨⟨_, _, F19, b19, PySem.W.mg_of X G a19⟩⟩ d_is_ready d_eye_height
  have d_answer_head := ok_answer_head (P := P) (w := w) (K := K) (mg := mg) (base := base) (C := C) T ⟨⟨_, _, F20, b20, PySem.W.mg_of X G a20⟩⟩ d_are_seen d_are_within d_points_of d_tell_place d_is_ready d_can_bear d_place_head
  have d_answer_taller := ok_answer_taller (P := P) (w := w) (K := K) (mg := mg) (base := base) (C := C) T ⟨⟨_, _, F21, b21, PySem.W.mg_of X G a21⟩⟩ d_are_seen d_points_of d_one_or_two d_excess d_is_ready d_is_standing d_measure
  have d_answer_side := ok_answer_side (P := P) (w := w) (K := K) (mg := mg) (base := base) (C := C) T ⟨⟨_, _, F22, b22, PySem.W.mg_of X G a22⟩⟩ d_are_seen d_points_of d_one_or_two d_is_ready d_side
  have d_answer_like := ok_answer_like (P := P) (w := w) (K := K) (mg := mg) (base := base) (C := C) T ⟨⟨_, _, F23, b23, PySem.W.mg_of X G a23⟩⟩ d_are_seen d_points_of d_tell_place d_is_ready d_can_bear d_is_standing d_measure d_place_head
  have d_answer_rule := ok_answer_rule (P := P) (w := w) (K := K) (mg := mg) (base := base) (C := C) T ⟨⟨_, _, F24, b24, PySem.W.mg_of X G a24⟩⟩ d_are_seen d_is_height d_points_of d_is_same d_is_ready d_is_standing d_post_height_by
  have d_answer_stands := ok_answer_stands (P := P) (w := w) (K := K) (mg := mg) (base := base) (C := C) T ⟨⟨_, _, F25, b25, PySem.W.mg_of X G a25⟩⟩ d_are_seen d_points_of d_one_if d_is_ready d_is_standing
  have d_answer_meet := ok_answer_meet (P := P) (w := w) (K := K) (mg := mg) (base := base) (C := C) T ⟨⟨_, _, F26, b26, PySem.W.mg_of X G a26⟩⟩ d_are_seen d_points_of d_is_same d_tell_place d_meet
  have d_answer_state := ok_answer_state (P := P) (w := w) (K := K) (mg := mg) (base := base) (C := C) T ⟨⟨_, _, F27, b27, PySem.W.mg_of X G a27⟩⟩ d_one_if d_is_ready
  refine ok_answers (S := fun f sp => Held P w K mg base 6 f sp) T F28 ⟨⟨_, _, ⟨mk, a29, i29, kc⟩, ok_init T F29, b29⟩⟩ ⟨⟨dC, es, PySem.W.mg_of X G aD, ⟨⟨nD, lD⟩, kD⟩, ?_⟩, fun _ _ h => h⟩
  intro p k hsh
  obtain ⟨_, hc⟩ := TP.shape_cases hsh
  rcases hc with ⟨rfl, rfl⟩ | ⟨rfl, rfl⟩ | ⟨rfl, rfl⟩ | ⟨rfl, rfl⟩ | ⟨rfl, rfl⟩ | ⟨rfl, rfl⟩ | ⟨rfl, rfl⟩ | ⟨rfl, rfl⟩ | ⟨rfl, rfl⟩ | ⟨rfl, rfl⟩ | ⟨rfl, rfl⟩ | ⟨rfl, rfl⟩ | ⟨rfl, rfl⟩ | ⟨rfl, rfl⟩ | ⟨rfl, rfl⟩
  · exact ⟨r0, f13, q0, fun H => row_sq (x := .int 0) (y := .ref f13) lr0 ⟨_, rfl⟩ rfl H, Cal.held (sp := spOf C 0 0) d_answer_start (PySem.W.mg_of X G a13) (by decide)⟩
  · exact ⟨r1, f14, q1, fun H => row_sq (x := .int 3) (y := .ref f14) lr1 ⟨_, rfl⟩ rfl H, Cal.held (sp := spOf C 1 3) d_answer_horizon (PySem.W.mg_of X G a14) (by decide)⟩
  · exact ⟨r2, f15, q2, fun H => row_sq (x := .int 3) (y := .ref f15) lr2 ⟨_, rfl⟩ rfl H, Cal.held (sp := spOf C 2 3) d_answer_up (PySem.W.mg_of X G a15) (by decide)⟩
  · exact ⟨r3, f16, q3, fun H => row_sq (x := .int 5) (y := .ref f16) lr3 ⟨_, rfl⟩ rfl H, Cal.held (sp := spOf C 3 5) d_answer_post (PySem.W.mg_of X G a16) (by decide)⟩
  · exact ⟨r4, f17, q4, fun H => row_sq (x := .int 0) (y := .ref f17) lr4 ⟨_, rfl⟩ rfl H, Cal.held (sp := spOf C 4 0) d_answer_ready (PySem.W.mg_of X G a17) (by decide)⟩
  · exact ⟨r5, f18, q5, fun H => row_sq (x := .int 4) (y := .ref f18) lr5 ⟨_, rfl⟩ rfl H, Cal.held (sp := spOf C 5 4) d_answer_height (PySem.W.mg_of X G a18) (by decide)⟩
  · exact ⟨r6, f19, q6, fun H => row_sq (x := .int 0) (y := .ref f19) lr6 ⟨_, rfl⟩ rfl H, Cal.held (sp := spOf C 6 0) d_answer_eye (PySem.W.mg_of X G a19) (by decide)⟩
  · exact ⟨r7, f20, q7, fun H => row_sq (x := .int 4) (y := .ref f20) lr7 ⟨_, rfl⟩ rfl H, Cal.held (sp := spOf C 7 4) d_answer_head (PySem.W.mg_of X G a20) (by decide)⟩
  · exact ⟨r8, f21, q8, fun H => row_sq (x := .int 8) (y := .ref f21) lr8 ⟨_, rfl⟩ rfl H, Cal.held (sp := spOf C 8 8) d_answer_taller (PySem.W.mg_of X G a21) (by decide)⟩
  · exact ⟨r9, f22, q9, fun H => row_sq (x := .int 2) (y := .ref f22) lr9 ⟨_, rfl⟩ rfl H, Cal.held (sp := spOf C 9 2) d_answer_side (PySem.W.mg_of X G a22) (by decide)⟩
  · exact ⟨r10, f23, q10, fun H => row_sq (x := .int 6) (y := .ref f23) lr10 ⟨_, rfl⟩ rfl H, Cal.held (sp := spOf C 10 6) d_answer_like (PySem.W.mg_of X G a23) (by decide)⟩
  · exact ⟨r11, f24, q11, fun H => row_sq (x := .int 5) (y := .ref f24) lr11 ⟨_, rfl⟩ rfl H, Cal.held (sp := spOf C 11 5) d_answer_rule (PySem.W.mg_of X G a24) (by decide)⟩
  · exact ⟨r12, f25, q12, fun H => row_sq (x := .int 4) (y := .ref f25) lr12 ⟨_, rfl⟩ rfl H, Cal.held (sp := spOf C 12 4) d_answer_stands (PySem.W.mg_of X G a25) (by decide)⟩
  · exact ⟨r13, f26, q13, fun H => row_sq (x := .int 4) (y := .ref f26) lr13 ⟨_, rfl⟩ rfl H, Cal.held (sp := spOf C 13 4) d_answer_meet (PySem.W.mg_of X G a26) (by decide)⟩
  · exact ⟨r14, f27, q14, fun H => row_sq (x := .int 0) (y := .ref f27) lr14 ⟨_, rfl⟩ rfl H, Cal.held (sp := spOf C 14 0) d_answer_state (PySem.W.mg_of X G a27) (by decide)⟩
end TW
open PySem PySem.W PyProof.Rows
set_option maxRecDepth 100000 in
set_option maxHeartbeats 8000000 in
theorem PySem.Challenge.cw_tallpost_s01_answers_holds : PySem.Challenge.rw_tallpost_s01_answers.Holds := by
  w_on; k_headS; (case hw => exact ⟨[.list [.int 0]], by decide +kernel, by decide +kernel⟩)
  k_fillS
  refine L2.walk_specK (r := PySem.Challenge.rw_tallpost_s01_answers) (k := 8) (CX := L2.CX0) (ps := ["calls"]) (sp := TW.sp_answers) (by decide +kernel) rfl rfl ⟨rfl, by decide, by decide⟩ (fun w h Y => PySem.W.kIn_of Y) ?F ?S (fun _ _ _ _ z => z)
  case F =>
    intro w mg fa h Y KX G hmg
    refine' TW.all_mk KX G hmg ?aC ?a0 ?l0 ?c0 ?k0 ?a1 ?l1 ?c1 ?k1 ?a2 ?l2 ?c2 ?k2 ?a3 ?l3 ?c3 ?k3 ?a4 ?l4 ?c4 ?k4 ?a5 ?l5 ?c5 ?k5 ?a6 ?l6 ?c6 ?k6 ?a7 ?l7 ?c7 ?k7 ?a8 ?l8 ?c8 ?k8 ?a9 ?l9 ?c9 ?k9 ?a10 ?l10 ?c10 ?k10 ?a11 ?l11 ?c11 ?k11 ?a12 ?l12 ?c12 ?k12 ?a13 ?l13 ?c13 ?k13 ?a14 ?l14 ?c14 ?k14 ?a15 ?l15 ?c15 ?k15 ?a16 ?l16 ?c16 ?k16 ?a17 ?l17 ?c17 ?k17 ?a18 ?l18 ?c18 ?k18 ?a19 ?l19 ?c19 ?k19 ?a20 ?l20 ?c20 ?k20 ?a21 ?l21 ?c21 ?k21 ?a22 ?l22 ?c22 ?k22 ?a23 ?l23 ?c23 ?k23 ?a24 ?l24 ?c24 ?k24 ?a25 ?l25 ?c25 ?k25 ?a26 ?l26 ?c26 ?k26 ?a27 ?l27 ?c27 ?k27 ?a28 ?l28 ?c28 ?k28 ?a29 ?i29 ?l29 ?c29 ?k29 ?a30 ?i30 ?l30 ?c30 ?k30 ?a31 ?i31 ?l31 ?c31 ?k31 ?a32 ?i32 ?l32 ?c32 ?k32 ?a33 ?i33 ?l33 ?c33 ?k33 ?a34 ?i34 ?l34 ?c34 ?k34 ?a35 ?i35 ?l35 ?c35 ?k35 ?a36 ?i36 ?l36 ?c36 ?k36 ?a37 ?i37 ?l37 ?c37 ?k37 ?a38 ?i38 ?l38 ?c38 ?k38 ?a39 ?i39 ?l39 ?c39 ?k39 ?a40 ?i40 ?l40 ?c40 ?k40 ?pg ?hd ?po ?sa ?mk ?kc ?n0 ?n1 ?n2 ?n3 ?n4 ?z_abs ?z_len ?z_list ?z_tuple ?z_range ?gk0 ?gk1 ?gk2 ?gk3 ?gk4 ?gk5 ?gk6 ?aD ?lD ?kD ?q0 ?lr0 ?q1 ?lr1 ?q2 ?lr2 ?q3 ?lr3 ?q4 ?lr4 ?q5 ?lr5 ?q6 ?lr6 ?q7 ?lr7 ?q8 ?lr8 ?q9 ?lr9 ?q10 ?lr10 ?q11 ?lr11 ?q12 ?lr12 ?q13 ?lr13 ?q14 ?lr14
    (case aC => k_is)
    (case a0 => k_is)
    (case l0 => k_is)
    (case c0 => k_is)
    (case k0 => k_is)
    (case a1 => k_is)
    (case l1 => k_is)
    (case c1 => k_is)
    (case k1 => k_is)
    (case a2 => k_is)
    (case l2 => k_is)
    (case c2 => k_is)
    (case k2 => k_is)
    (case a3 => k_is)
    (case l3 => k_is)
    (case c3 => k_is)
    (case k3 => k_is)
    (case a4 => k_is)
    (case l4 => k_is)
    (case c4 => k_is)
    (case k4 => k_is)
    (case a5 => k_is)
    (case l5 => k_is)
    (case c5 => k_is)
    (case k5 => k_is)
    (case a6 => k_is)
    (case l6 => k_is)
    (case c6 => k_is)
    (case k6 => k_is)
    (case a7 => k_is)
    (case l7 => k_is)
    (case c7 => k_is)
    (case k7 => k_is)
    (case a8 => k_is)
    (case l8 => k_is)
    (case c8 => k_is)
    (case k8 => k_is)
    (case a9 => k_is)
    (case l9 => k_is)
    (case c9 => k_is)
    (case k9 => k_is)
    (case a10 => k_is)
    (case l10 => k_is)
    (case c10 => k_is)
    (case k10 => k_is)
    (case a11 => k_is)
    (case l11 => k_is)
    (case c11 => k_is)
    (case k11 => k_is)
    (case a12 => k_is)
    (case l12 => k_is)
    (case c12 => k_is)
    (case k12 => k_is)
    (case a13 => k_is)
    (case l13 => k_is)
    (case c13 => k_is)
    (case k13 => k_is)
    (case a14 => k_is)
    (case l14 => k_is)
    (case c14 => k_is)
    (case k14 => k_is)
    (case a15 => k_is)
    (case l15 => k_is)
    (case c15 => k_is)
    (case k15 => k_is)
    (case a16 => k_is)
    (case l16 => k_is)
    (case c16 => k_is)
    (case k16 => k_is)
    (case a17 => k_is)
    (case l17 => k_is)
    (case c17 => k_is)
    (case k17 => k_is)
    (case a18 => k_is)
    (case l18 => k_is)
    (case c18 => k_is)
    (case k18 => k_is)
    (case a19 => k_is)
    (case l19 => k_is)
    (case c19 => k_is)
    (case k19 => k_is)
    (case a20 => k_is)
    (case l20 => k_is)
    (case c20 => k_is)
    (case k20 => k_is)
    (case a21 => k_is)
    (case l21 => k_is)
    (case c21 => k_is)
    (case k21 => k_is)
    (case a22 => k_is)
    (case l22 => k_is)
    (case c22 => k_is)
    (case k22 => k_is)
    (case a23 => k_is)
    (case l23 => k_is)
    (case c23 => k_is)
    (case k23 => k_is)
    (case a24 => k_is)
    (case l24 => k_is)
    (case c24 => k_is)
    (case k24 => k_is)
    (case a25 => k_is)
    (case l25 => k_is)
    (case c25 => k_is)
    (case k25 => k_is)
    (case a26 => k_is)
    (case l26 => k_is)
    (case c26 => k_is)
    (case k26 => k_is)
    (case a27 => k_is)
    (case l27 => k_is)
    (case c27 => k_is)
    (case k27 => k_is)
    (case a28 => k_is)
    (case l28 => k_is)
    (case c28 => k_is)
    (case k28 => k_is)
    (case a29 => k_is)
    (case i29 => k_is)
    (case l29 => k_is)
    (case c29 => k_is)
    (case k29 => k_is)
    (case a30 => k_is)
    (case i30 => k_is)
    (case l30 => k_is)
    (case c30 => k_is)
    (case k30 => k_is)
    (case a31 => k_is)
    (case i31 => k_is)
    (case l31 => k_is)
    (case c31 => k_is)
    (case k31 => k_is)
    (case a32 => k_is)
    (case i32 => k_is)
    (case l32 => k_is)
    (case c32 => k_is)
    (case k32 => k_is)
    (case a33 => k_is)
    (case i33 => k_is)
    (case l33 => k_is)
    (case c33 => k_is)
    (case k33 => k_is)
    (case a34 => k_is)
    (case i34 => k_is)
    (case l34 => k_is)
    (case c34 => k_is)
    (case k34 => k_is)
    (case a35 => k_is)
    (case i35 => k_is)
    (case l35 => k_is)
    (case c35 => k_is)
    (case k35 => k_is)
    (case a36 => k_is)
    (case i36 => k_is)
    (case l36 => k_is)
    (case c36 => k_is)
    (case k36 => k_is)
    (case a37 => k_is)
    (case i37 => k_is)
    (case l37 => k_is)
    (case c37 => k_is)
    (case k37 => k_is)
    (case a38 => k_is)
    (case i38 => k_is)
    (case l38 => k_is)
    (case c38 => k_is)
    (case k38 => k_is)
    (case a39 => k_is)
    (case i39 => k_is)
    (case l39 => k_is)
    (case c39 => k_is)
    (case k39 => k_is)
    (case a40 => k_is)
    (case i40 => k_is)
    (case l40 => k_is)
    (case c40 => k_is)
    (case k40 => k_is)
    (case pg => k_is)
    (case hd => k_is)
    (case po => k_is)
    (case sa => k_is)
    (case mk => k_is)
    (case kc => k_is)
    (case n0 => k_is)
    (case n1 => k_is)
    (case n2 => k_is)
    (case n3 => k_is)
    (case n4 => k_is)
    (case z_abs => k_is)
    (case z_len => k_is)
    (case z_list => k_is)
    (case z_tuple => k_is)
    (case z_range => k_is)
    (case gk0 => k_is)
    (case gk1 => k_is)
    (case gk2 => k_is)
    (case gk3 => k_is)
    (case gk4 => k_is)
    (case gk5 => k_is)
    (case gk6 => k_is)
    (case aD => k_is)
    (case lD => k_is)
    (case kD => exact by repeat (first | exact trivial | refine ⟨⟨_, _, rfl, rfl⟩, ?_⟩))
    (case q0 => rfl)
    (case lr0 => k_is)
    (case q1 => rfl)
    (case lr1 => k_is)
    (case q2 => rfl)
    (case lr2 => k_is)
    (case q3 => rfl)
    (case lr3 => k_is)
    (case q4 => rfl)
    (case lr4 => k_is)
    (case q5 => rfl)
    (case lr5 => k_is)
    (case q6 => rfl)
    (case lr6 => k_is)
    (case q7 => rfl)
    (case lr7 => k_is)
    (case q8 => rfl)
    (case lr8 => k_is)
    (case q9 => rfl)
    (case lr9 => k_is)
    (case q10 => rfl)
    (case lr10 => k_is)
    (case q11 => rfl)
    (case lr11 => k_is)
    (case q12 => rfl)
    (case lr12 => k_is)
    (case q13 => rfl)
    (case lr13 => k_is)
    (case q14 => rfl)
    (case lr14 => k_is)
  case S =>
    intro K H xs a hO hwi hask hx
    cases hx with
    | cons h1 h2 =>
      cases h2
      cases h1 with
      | lst hs ha =>
        have e := L2.ints_dw a.1 _ ha
        subst e
        exact ⟨_, a.1, rfl, hs, hask, fun H' p hp => .lst (L2.SqL.of hp) (L2.dw_ints _)⟩
