import PyProof.Rows.All
import Wide.All
import OpenK.AllK
import Wide.FinOn
import Open.SpecLaws
import KE.OsGo
import HandS.ForMost
import HandS.ForSpec
import HandS.Wide
import HandS.Deep
import HandS.Walk
import HandS.Flow
import PySem.Challenge.RW_samelevels_s01_answers
set_option Elab.async false
set_option linter.all false
set_option maxRecDepth 100000
/-! Fractions: what the program's four operations make is what the specification's make. -/
namespace Sl
open Kp340 Kp341 Kp342 Kp343
/-- in lowest terms, the lower number above 0 -/
def Ok (x : Fr) : Prop := 0 < x.2 ∧ Nat.gcd x.1.natAbs x.2.natAbs = 1
theorem ok01 : Ok (0, 1) := ⟨by decide, by decide⟩
theorem ok11 : Ok (1, 1) := ⟨by decide, by decide⟩
theorem okI (i : Int) : Ok (i, 1) := ⟨by show (0 : Int) < 1; decide, by show Nat.gcd i.natAbs 1 = 1; exact Nat.gcd_one_right _⟩
theorem Ok.neg {x : Fr} (h : Ok x) : Ok (neg x) := ⟨h.1, by show Nat.gcd (-x.1).natAbs x.2.natAbs = 1; rw [Int.natAbs_neg]; exact h.2⟩
/-- two in lowest terms that are the same number are the same pair -/
theorem Ok.uniq {x y : Fr} (hx : Ok x) (hy : Ok y) (e : x.1 * y.2 = y.1 * x.2) : x = y := by
  obtain ⟨a, b⟩ := x
  obtain ⟨c, d⟩ := y
  obtain ⟨hb, gb⟩ := hx
  obtain ⟨hd, gd⟩ := hy
  dsimp only at *
  have e2 : a.natAbs * d.natAbs = c.natAbs * b.natAbs := by
    rw [← Int.natAbs_mul, ← Int.natAbs_mul, e]
  have h1 : b.natAbs ∣ d.natAbs := by
    have : b.natAbs ∣ a.natAbs * d.natAbs := ⟨c.natAbs, by rw [e2, Nat.mul_comm]⟩
    exact (Nat.Coprime.dvd_of_dvd_mul_left (by rw [Nat.Coprime, Nat.gcd_comm]; exact gb) this)
  have h2 : d.natAbs ∣ b.natAbs := by
    have : d.natAbs ∣ c.natAbs * b.natAbs := ⟨a.natAbs, by rw [← e2, Nat.mul_comm]⟩
    exact (Nat.Coprime.dvd_of_dvd_mul_left (by rw [Nat.Coprime, Nat.gcd_comm]; exact gd) this)
  have h3 : b.natAbs = d.natAbs := Nat.dvd_antisymm h1 h2
  have h4 : b = d := by omega
  subst h4
  have h5 : a = c := Int.eq_of_mul_eq_mul_right (by omega) e
  rw [h5]
/-- what fr is: with the greatest common divisor taken out -/
theorem fr_spec (a b : Int) (hb : b ≠ 0) : Ok (fr a b) ∧ (fr a b).1 * b = a * (fr a b).2 := by
  have hg : Nat.gcd a.natAbs b.natAbs ≠ 0 := fun z => by
    have := (Nat.gcd_eq_zero_iff.mp z).2
    omega
  have hgp : 0 < Nat.gcd a.natAbs b.natAbs := Nat.pos_of_ne_zero hg
  have e0 : fr a b = if b < 0 then (-a / (Nat.gcd a.natAbs b.natAbs : Int), -b / (Nat.gcd a.natAbs b.natAbs : Int)) else (a / (Nat.gcd a.natAbs b.natAbs : Int), b / (Nat.gcd a.natAbs b.natAbs : Int)) := by
    unfold fr
    rw [if_neg hg]
  obtain ⟨p, hp⟩ : (Nat.gcd a.natAbs b.natAbs : Int) ∣ a := Int.ofNat_dvd_left.mpr (Nat.gcd_dvd_left _ _)
  obtain ⟨q, hq⟩ : (Nat.gcd a.natAbs b.natAbs : Int) ∣ b := Int.ofNat_dvd_left.mpr (Nat.gcd_dvd_right _ _)
  have hco : Nat.gcd p.natAbs q.natAbs = 1 := by
    have h1 : a.natAbs = Nat.gcd a.natAbs b.natAbs * p.natAbs := by
      conv => lhs; rw [hp]
      rw [Int.natAbs_mul, Int.natAbs_natCast]
    have h2 : b.natAbs = Nat.gcd a.natAbs b.natAbs * q.natAbs := by
      conv => lhs; rw [hq]
      rw [Int.natAbs_mul, Int.natAbs_natCast]
    have h3 : Nat.gcd (Nat.gcd a.natAbs b.natAbs * p.natAbs) (Nat.gcd a.natAbs b.natAbs * q.natAbs) = Nat.gcd a.natAbs b.natAbs * Nat.gcd p.natAbs q.natAbs := Nat.gcd_mul_left _ _ _
    rw [← h1, ← h2] at h3
    exact Nat.eq_of_mul_eq_mul_left hgp (by rw [← h3, Nat.mul_one])
  generalize Nat.gcd a.natAbs b.natAbs = g at *
  have hgi : (g : Int) ≠ 0 := by omega
  have hgi2 : (0 : Int) < g := by omega
  subst hp hq
  have dp : ∀ z : Int, (g : Int) * z / g = z := fun z => Int.mul_ediv_cancel_left z hgi
  have dn : ∀ z : Int, -((g : Int) * z) / g = -z := fun z => by rw [← Int.mul_neg]; exact dp (-z)
  by_cases hn : (g : Int) * q < 0
  · rw [e0, if_pos hn, dn, dn]
    have hq0 : q < 0 := by
      rcases Int.lt_or_le q 0 with h | h
      · exact h
      · exact absurd (Int.mul_nonneg (show (0 : Int) ≤ (g : Int) by omega) h) (by omega)
    refine ⟨⟨by show 0 < -q; omega, by show Nat.gcd (-p).natAbs (-q).natAbs = 1; rw [Int.natAbs_neg, Int.natAbs_neg]; exact hco⟩, ?_⟩
    show -p * (g * q) = g * p * -q
    grind
  · rw [e0, if_neg hn, dp, dp]
    have hq0 : 0 < q := by
      rcases Int.lt_or_le 0 q with h | h
      · exact h
      · rcases Int.lt_or_eq_of_le h with h | h
        · exact absurd (Int.mul_neg_of_pos_of_neg hgi2 h) hn
        · subst h
          exact absurd (Int.mul_zero _) hb
    refine ⟨⟨hq0, hco⟩, ?_⟩
    show p * (g * q) = g * p * q
    grind
theorem fr_ok (a b : Int) (hb : b ≠ 0) : Ok (fr a b) := (fr_spec a b hb).1
theorem fr_cross (a b : Int) (hb : b ≠ 0) : (fr a b).1 * b = a * (fr a b).2 := (fr_spec a b hb).2
/-- fr of a pair in lowest terms that is the same number -/
theorem fr_is {a b : Int} {x : Fr} (hb : b ≠ 0) (hx : Ok x) (e : a * x.2 = x.1 * b) : fr a b = x := by
  refine (fr_ok a b hb).uniq hx ?_
  have h := fr_cross a b hb
  have : ((fr a b).1 * x.2 - x.1 * (fr a b).2) * b = 0 := by grind
  rcases Int.mul_eq_zero.mp this with h | h
  · omega
  · exact absurd h hb
theorem fr_eq {a b c d : Int} (hb : b ≠ 0) (hd : d ≠ 0) (e : a * d = c * b) : fr a b = fr c d := by
  refine fr_is hb (fr_ok c d hd) ?_
  have h := fr_cross c d hd
  have : (a * (fr c d).2 - (fr c d).1 * b) * d = 0 := by grind
  rcases Int.mul_eq_zero.mp this with h | h
  · omega
  · exact absurd h hd
theorem fr_self {x : Fr} (h : Ok x) : fr x.1 x.2 = x := fr_is (by have := h.1; omega) h rfl
theorem Ok.ne {x : Fr} (h : Ok x) : x.2 ≠ 0 := by have := h.1; omega
theorem Ok.zero {x : Fr} (h : Ok x) : zeroF x = decide (x = (0, 1)) := by
  by_cases e : x.1 = 0
  · have : x = (0, 1) := h.uniq ok01 (by show x.1 * 1 = 0 * x.2; rw [e]; omega)
    rw [this]
    decide
  · unfold zeroF
    rw [decide_eq_false (fun z => e (by rw [z])), beq_eq_false_iff_ne]
    exact e
theorem zero_iff {x : Fr} : zeroF x = true ↔ x.1 = 0 := by unfold zeroF; exact beq_iff_eq
theorem ok_zero {x : Fr} (h : Ok x) (z : zeroF x = true) : x = (0, 1) := h.uniq ok01 (by show x.1 * 1 = 0 * x.2; rw [zero_iff.mp z]; omega)
/-! the program's words -/
def plusP (p q : Fr) : Fr := fr (p.1 * q.2 + q.1 * p.2) (p.2 * q.2)
def minusP (p q : Fr) : Fr := fr (p.1 * q.2 - q.1 * p.2) (p.2 * q.2)
def timesP (p q : Fr) : Fr := fr (p.1 * q.1) (p.2 * q.2)
def overP (p q : Fr) : Fr := fr (p.1 * q.2) (p.2 * q.1)
theorem plus_is (p q : Fr) : plusP p q = add p q := rfl
theorem times_is (p q : Fr) : timesP p q = mul p q := rfl
theorem mulne {a b : Int} (ha : a ≠ 0) (hb : b ≠ 0) : a * b ≠ 0 := Int.mul_ne_zero ha hb
theorem add_ok {p q : Fr} (hp : Ok p) (hq : Ok q) : Ok (add p q) := fr_ok _ _ (mulne hp.ne hq.ne)
theorem mul_ok {p q : Fr} (hp : Ok p) (hq : Ok q) : Ok (mul p q) := fr_ok _ _ (mulne hp.ne hq.ne)
theorem minus_ok {p q : Fr} (hp : Ok p) (hq : Ok q) : Ok (minusP p q) := fr_ok _ _ (mulne hp.ne hq.ne)
theorem over_ok {p q : Fr} (hp : Ok p) (hq : q.1 ≠ 0) : Ok (overP p q) := fr_ok _ _ (mulne hp.ne hq)
theorem inv_ok {q : Fr} (hq : q.1 ≠ 0) : Ok (inv q) := fr_ok _ _ hq
theorem mul_comm' (p q : Fr) : mul p q = mul q p := by
  unfold mul
  rw [Int.mul_comm p.1, Int.mul_comm p.2]
theorem neg_mul {p q : Fr} (hp : Ok p) (hq : Ok q) : mul (neg p) q = neg (mul p q) := by
  refine fr_is (mulne hp.ne hq.ne) (mul_ok hp hq).neg ?_
  have h := fr_cross (p.1 * q.1) (p.2 * q.2) (mulne hp.ne hq.ne)
  show -p.1 * q.1 * (mul p q).2 = -(mul p q).1 * (p.2 * q.2)
  unfold mul
  grind
theorem minus_is (p q : Fr) : minusP p q = add p (neg q) := by
  unfold minusP add neg
  dsimp only
  rw [Int.sub_eq_add_neg, Int.neg_mul]
/-- one entry of a row that's cleared -/
theorem clear1 {r f l : Fr} (hf : Ok f) (hl : Ok l) : minusP r (timesP f l) = add r (mul (neg f) l) := by
  rw [minus_is, neg_mul hf hl]
  rfl
theorem over_is {p q : Fr} (hp : Ok p) (hq : Ok q) (h0 : q.1 ≠ 0) : overP p q = mul (inv q) p := by
  refine fr_is (mulne hp.ne h0) (mul_ok (inv_ok h0) hp) ?_
  have h1 := fr_cross q.2 q.1 h0
  have h2 := fr_cross ((inv q).1 * p.1) ((inv q).2 * p.2) (mulne (inv_ok h0).ne hp.ne)
  have n1 := (inv_ok h0).ne
  show p.1 * q.2 * (mul (inv q) p).2 = (mul (inv q) p).1 * (p.2 * q.1)
  change (inv q).1 * q.1 = q.2 * (inv q).2 at h1
  change (mul (inv q) p).1 * ((inv q).2 * p.2) = (inv q).1 * p.1 * (mul (inv q) p).2 at h2
  have : (p.1 * q.2 * (mul (inv q) p).2 - (mul (inv q) p).1 * (p.2 * q.1)) * (inv q).2 = 0 := by grind
  rcases Int.mul_eq_zero.mp this with h | h
  · omega
  · exact absurd h n1
theorem over_is' {p q : Fr} (hp : Ok p) (hq : Ok q) (h0 : q.1 ≠ 0) : overP p q = mul p (inv q) := by
  rw [over_is hp hq h0, mul_comm']
theorem minus_zero {x : Fr} (h : Ok x) : minusP (0, 1) x = neg x := by
  refine fr_is (mulne (by show (1 : Int) ≠ 0; decide) h.ne) h.neg ?_
  show (0 * x.2 - x.1 * 1) * x.2 = -x.1 * (1 * x.2)
  grind
/-- where the lead has 0 a row stays -/
theorem clear_zero {r f : Fr} (hr : Ok r) (hf : Ok f) : add r (mul (neg f) (0, 1)) = r := by
  have e : mul (neg f) (0, 1) = (0, 1) := fr_is (mulne hf.ne (by decide)) ok01 (by show -f.1 * 0 * 1 = 0 * (f.2 * 1); omega)
  rw [e]
  exact fr_is (mulne hr.ne (by decide)) hr (by show (r.1 * 1 + 0 * r.2) * r.2 = r.1 * (r.2 * 1); grind)
/-- where the lead has 1 a row has 0 then -/
theorem clear_one {r : Fr} (hr : Ok r) : add r (mul (neg r) (1, 1)) = (0, 1) := by
  have e : mul (neg r) (1, 1) = neg r := fr_is (mulne hr.ne (by decide)) hr.neg (by show -r.1 * 1 * r.2 = -r.1 * (r.2 * 1); grind)
  rw [e]
  exact fr_is (mulne hr.ne hr.ne) ok01 (by show (r.1 * r.2 + -r.1 * r.2) * 1 = 0 * (r.2 * r.2); grind)
theorem led_one {r : Fr} (hr : Ok r) (h0 : r.1 ≠ 0) : mul (inv r) r = (1, 1) := by
  rw [← over_is hr hr h0]
  exact fr_is (mulne hr.ne h0) ok11 (by show r.1 * r.2 * 1 = 1 * (r.2 * r.1); grind)
theorem led_zero {r : Fr} (hr : Ok r) (h0 : r.1 ≠ 0) : mul (inv r) (0, 1) = (0, 1) :=
  fr_is (mulne (inv_ok h0).ne (by decide)) ok01 (by show (inv r).1 * 0 * 1 = 0 * ((inv r).2 * 1); omega)
/-! sizes -/
theorem fr_le (a b : Int) (hb : b ≠ 0) : (fr a b).1.natAbs ≤ a.natAbs ∧ (fr a b).2.natAbs ≤ b.natAbs := by
  obtain ⟨⟨h2, hc⟩, e⟩ := fr_spec a b hb
  generalize fr a b = x at *
  have e2 : x.1.natAbs * b.natAbs = a.natAbs * x.2.natAbs := by rw [← Int.natAbs_mul, ← Int.natAbs_mul, e]
  have hd : x.2.natAbs ∣ b.natAbs := by
    have : x.2.natAbs ∣ x.1.natAbs * b.natAbs := ⟨a.natAbs, by rw [e2, Nat.mul_comm]⟩
    exact (Nat.Coprime.dvd_of_dvd_mul_left (by rw [Nat.Coprime, Nat.gcd_comm]; exact hc) this)
  obtain ⟨k, hk⟩ := hd
  have hx2 : 0 < x.2.natAbs := by omega
  have hb' : 0 < b.natAbs := by omega
  have hk0 : 0 < k := by
    rcases Nat.eq_zero_or_pos k with h | h
    · rw [h, Nat.mul_zero] at hk; omega
    · exact h
  have e3 : a.natAbs = x.1.natAbs * k := by
    have : x.2.natAbs * a.natAbs = x.2.natAbs * (x.1.natAbs * k) := by
      rw [Nat.mul_comm x.2.natAbs a.natAbs, ← e2, hk]
      grind
    exact Nat.eq_of_mul_eq_mul_left hx2 this
  refine ⟨?_, ?_⟩
  · rw [e3]; exact Nat.le_mul_of_pos_right _ hk0
  · rw [hk]; exact Nat.le_mul_of_pos_right _ hk0
end Sl

/-! Rows made plain: the program's relations, weights that could be, ratio, against the specification's. -/
namespace Sl
open Kp340 Kp341 Kp342 Kp343
/-! ### the mirror -/
abbrev Row := List Fr
def firstWith (rows : List Row) (c : Nat) : Option Nat := rows.findIdx? fun r => !decide (r.getD c (0, 1) = (0, 1))
def led (row : Row) (c : Nat) : Row := row.map fun x => overP x (row.getD c (0, 1))
def cleared (row lead : Row) (c : Nat) : Row := (List.range row.length).map fun k => minusP (row.getD k (0, 1)) (timesP (row.getD c (0, 1)) (lead.getD k (0, 1)))
def relStep (s : List Row × List Row) (c : Nat) : List Row × List Row := match firstWith s.2 c with
  | none => s
  | some k =>
    let lead := led (s.2.getD k []) c
    (s.1.map (fun r => cleared r lead c) ++ [lead], (s.2.take k ++ s.2.drop (k + 1)).map fun r => cleared r lead c)
def relationsAmong (rows : List Row) (w : Nat) : List Row := ((List.range w).foldl relStep ([], rows)).1
/-! ### good rows -/
def Good (w : Nat) (r : Row) : Prop := r.length = w ∧ ∀ x ∈ r, Ok x
theorem getD_of {α : Type} {l : List α} {k : Nat} {d : α} (h : k < l.length) : l.getD k d = l[k] := by
  rw [List.getD_eq_getElem?_getD, List.getElem?_eq_getElem h]
  rfl
theorem getD_out {α : Type} {l : List α} {k : Nat} {d : α} (h : l.length ≤ k) : l.getD k d = d := by
  rw [List.getD_eq_getElem?_getD, List.getElem?_eq_none h]
  rfl
theorem Good.at {w : Nat} {r : Row} (g : Good w r) (k : Nat) : Ok (r.getD k (0, 1)) := by
  by_cases h : k < r.length
  · rw [getD_of h]
    exact g.2 _ (List.getElem_mem h)
  · rw [getD_out (by omega)]
    exact ok01
theorem ext_getD {α : Type} {l m : List α} {d : α} (hl : l.length = m.length) (h : ∀ k, k < l.length → l.getD k d = m.getD k d) : l = m := by
  refine List.ext_getElem hl fun k h1 h2 => ?_
  have := h k h1
  rwa [getD_of h1, getD_of h2] at this
theorem map_getD {α β : Type} {l : List α} {f : α → β} {k : Nat} {d : α} {e : β} (h : k < l.length) : (l.map f).getD k e = f (l.getD k d) := by
  rw [getD_of (by rw [List.length_map]; exact h), List.getElem_map, getD_of h]
theorem clear_len {c : Nat} {p r : Row} (h : r.length = p.length) : (clear c p r).length = r.length := by
  unfold clear addRow timesRow
  rw [List.length_zipWith, List.length_map, h, Nat.min_self]
theorem clear_getD {c : Nat} {p r : Row} {k : Nat} (hl : r.length = p.length) (hk : k < r.length) : (clear c p r).getD k (0, 1) = add (r.getD k (0, 1)) (mul (neg (r.getD c (0, 1))) (p.getD k (0, 1))) := by
  unfold clear addRow timesRow
  rw [getD_of (l := List.zipWith _ _ _) (by rw [List.length_zipWith, List.length_map]; omega), List.getElem_zipWith, List.getElem_map, getD_of (l := r) hk, getD_of (l := p) (by omega)]
theorem cleared_is {c w : Nat} {p r : Row} (gr : Good w r) (gp : Good w p) : cleared r p c = clear c p r := by
  have hl : r.length = p.length := by rw [gr.1, gp.1]
  refine ext_getD (d := (0, 1)) ?_ fun k hk => ?_
  · unfold cleared
    rw [List.length_map, List.length_range, clear_len hl]
  · have hk' : k < r.length := by
      unfold cleared at hk
      rwa [List.length_map, List.length_range] at hk
    rw [clear_getD hl hk']
    unfold cleared
    rw [map_getD (d := 0) (by rw [List.length_range]; exact hk'), getD_of (l := List.range _) (by rw [List.length_range]; exact hk'), List.getElem_range]
    exact clear1 (gr.at c) (gp.at k)
theorem clear_good {c w : Nat} {p r : Row} (gr : Good w r) (gp : Good w p) : Good w (clear c p r) := by
  have hl : r.length = p.length := by rw [gr.1, gp.1]
  refine ⟨by rw [clear_len hl]; exact gr.1, fun x hx => ?_⟩
  obtain ⟨k, hk, rfl⟩ := List.mem_iff_getElem.mp hx
  have hk' : k < r.length := by rwa [clear_len hl] at hk
  rw [← getD_of (d := (0, 1)) hk, clear_getD hl hk']
  exact add_ok (gr.at k) (mul_ok (gr.at c).neg (gp.at k))
theorem led_is {c w : Nat} {r : Row} (gr : Good w r) (h0 : (r.getD c (0, 1)).1 ≠ 0) : led r c = timesRow (inv (r.getD c (0, 1))) r := by
  unfold led timesRow
  refine List.map_congr_left fun x hx => ?_
  exact over_is (gr.2 x hx) (gr.at c) h0
theorem led_good {c w : Nat} {r : Row} (gr : Good w r) (h0 : (r.getD c (0, 1)).1 ≠ 0) : Good w (timesRow (inv (r.getD c (0, 1))) r) := by
  refine ⟨by unfold timesRow; rw [List.length_map]; exact gr.1, fun x hx => ?_⟩
  unfold timesRow at hx
  obtain ⟨y, hy, rfl⟩ := List.mem_map.mp hx
  exact mul_ok (inv_ok h0) (gr.2 y hy)
/-! ### plain, step by step -/
def pStep (s : List (Nat × Row) × List Row) (c : Nat) : List (Nat × Row) × List Row := match s.2.findIdx? fun r => !zeroF (r.getD c (0, 1)) with
  | none => s
  | some i =>
    let r := s.2.getD i []
    let p := timesRow (inv (r.getD c (0, 1))) r
    (s.1.map (fun x => (x.1, clear c p x.2)) ++ [(c, p)], (s.2.take i ++ s.2.drop (i + 1)).map (clear c p))
theorem plain_is (k : Nat) (rows : List Row) : plain k rows = ((List.range k).foldl pStep ([], rows)).1 := rfl
/-- what holds ahead of column c -/
structure PInv (w c : Nat) (s : List (Nat × Row) × List Row) : Prop where
  done : ∀ x ∈ s.1, x.1 < c ∧ Good w x.2 ∧ (∀ k, k < x.1 → x.2.getD k (0, 1) = (0, 1)) ∧ x.2.getD x.1 (0, 1) = (1, 1)
  rest : ∀ r ∈ s.2, Good w r ∧ ∀ k, k < c → r.getD k (0, 1) = (0, 1)
  up : (s.1.map (·.1)).Pairwise (· < ·)
theorem findIdx_some {α : Type} {l : List α} {p : α → Bool} {i : Nat} {d : α} (h : l.findIdx? p = some i) : i < l.length ∧ p (l.getD i d) = true ∧ ∀ j, j < i → p (l.getD j d) = false := by
  obtain ⟨h1, h2, h3⟩ := List.findIdx?_eq_some_iff_getElem.mp h
  refine ⟨h1, by rw [getD_of h1]; exact h2, fun j hj => ?_⟩
  have := h3 j hj
  rw [getD_of (by omega)]
  simpa using this
theorem findIdx_none {α : Type} {l : List α} {p : α → Bool} (h : l.findIdx? p = none) : ∀ x ∈ l, p x = false := by
  intro x hx
  have := List.findIdx?_eq_none_iff.mp h x hx
  simpa using this
theorem mem_getD {α : Type} {l : List α} {i : Nat} {d : α} (h : i < l.length) : l.getD i d ∈ l := by
  rw [getD_of h]
  exact List.getElem_mem h
theorem pStep_inv {w c : Nat} {s : List (Nat × Row) × List Row} (hc : c < w) (I : PInv w c s) : PInv w (c + 1) (pStep s c) := by
  unfold pStep
  split
  · rename_i h
    refine ⟨fun x hx => ?_, fun r hr => ?_, I.up⟩
    · obtain ⟨a, b⟩ := I.done x hx
      exact ⟨by omega, b⟩
    · obtain ⟨a, b⟩ := I.rest r hr
      refine ⟨a, fun k hk => ?_⟩
      by_cases e : k = c
      · subst e
        have := findIdx_none h r hr
        exact ok_zero (a.at k) (by simpa using this)
      · exact b k (by omega)
  · rename_i i h
    obtain ⟨hi, hp, _⟩ := findIdx_some (d := []) h
    have hr := mem_getD (d := []) hi
    obtain ⟨gr, gz⟩ := I.rest _ hr
    dsimp only
    generalize s.2.getD i [] = r at *
    have h0 : (r.getD c (0, 1)).1 ≠ 0 := fun z => by
      rw [zero_iff.mpr z] at hp
      exact absurd hp (by decide)
    have gp := led_good gr h0
    have pz : ∀ k, k < c → (timesRow (inv (r.getD c (0, 1))) r).getD k (0, 1) = (0, 1) := fun k hk => by
      unfold timesRow
      rw [map_getD (d := (0, 1)) (by rw [gr.1]; omega), gz k hk]
      exact led_zero (gr.at c) h0
    have p1 : (timesRow (inv (r.getD c (0, 1))) r).getD c (0, 1) = (1, 1) := by
      unfold timesRow
      rw [map_getD (d := (0, 1)) (by rw [gr.1]; omega)]
      exact led_one (gr.at c) h0
    generalize timesRow (inv (r.getD c (0, 1))) r = p at *
    refine ⟨fun x hx => ?_, fun q hq => ?_, ?_⟩
    · rcases List.mem_append.mp hx with hx | hx
      · obtain ⟨y, hy, rfl⟩ := List.mem_map.mp hx
        obtain ⟨a, g, z, o⟩ := I.done y hy
        have hl : y.2.length = p.length := by rw [g.1, gp.1]
        refine ⟨by show y.1 < c + 1; omega, clear_good g gp, fun k hk => ?_, ?_⟩
        · show (clear c p y.2).getD k (0, 1) = (0, 1)
          have hk' : k < y.1 := hk
          rw [clear_getD hl (by rw [g.1]; omega), pz k (by omega), clear_zero (g.at k) (g.at c)]
          exact z k hk'
        · show (clear c p y.2).getD y.1 (0, 1) = (1, 1)
          rw [clear_getD hl (by rw [g.1]; omega), pz y.1 a, clear_zero (g.at _) (g.at c)]
          exact o
      · obtain rfl := List.mem_singleton.mp hx
        exact ⟨Nat.lt_succ_self c, gp, pz, p1⟩
    · obtain ⟨y, hy, rfl⟩ := List.mem_map.mp hq
      have hy' : y ∈ s.2 := by
        rcases List.mem_append.mp hy with h | h
        · exact List.mem_of_mem_take h
        · exact List.mem_of_mem_drop h
      obtain ⟨g, z⟩ := I.rest y hy'
      have hl : y.length = p.length := by rw [g.1, gp.1]
      refine ⟨clear_good g gp, fun k hk => ?_⟩
      by_cases e : k = c
      · subst e
        rw [clear_getD hl (by rw [g.1]; omega), p1]
        exact clear_one (g.at k)
      · rw [clear_getD hl (by rw [g.1]; omega), pz k (by omega), clear_zero (g.at k) (g.at c)]
        exact z k (by omega)
    · rw [List.map_append, List.map_map]
      refine List.pairwise_append.mpr ⟨I.up, List.pairwise_singleton _ _, fun a ha b hb => ?_⟩
      obtain ⟨y, hy, rfl⟩ := List.mem_map.mp ha
      have := (I.done y hy).1
      simp only [List.map_cons, List.map_nil, List.mem_singleton] at hb
      subst hb
      exact this
theorem fold_inv {w : Nat} {rows : List Row} (hg : ∀ r ∈ rows, Good w r) : ∀ c, c ≤ w → PInv w c ((List.range c).foldl pStep ([], rows))
  | 0, _ => ⟨fun x hx => absurd hx List.not_mem_nil, fun r hr => ⟨hg r hr, fun k hk => absurd hk (Nat.not_lt_zero k)⟩, List.Pairwise.nil⟩
  | c + 1, h => by
    rw [List.range_succ, List.foldl_append]
    exact pStep_inv (by omega) (fold_inv hg c (by omega))
theorem relStep_is {w c : Nat} {s : List (Nat × Row) × List Row} (I : PInv w c s) : relStep (s.1.map (·.2), s.2) c = ((pStep s c).1.map (·.2), (pStep s c).2) := by
  have e : firstWith s.2 c = s.2.findIdx? fun r => !zeroF (r.getD c (0, 1)) := by
    unfold firstWith
    have : ∀ l : List Row, (∀ r ∈ l, Good w r) → l.findIdx? (fun r => !decide (r.getD c (0, 1) = (0, 1))) = l.findIdx? (fun r => !zeroF (r.getD c (0, 1))) := by
      intro l
      induction l with
      | nil => intro _; rfl
      | cons a l ih =>
        intro h
        rw [List.findIdx?_cons, List.findIdx?_cons, ih fun r hr => h r (List.mem_cons_of_mem _ hr), ((h a List.mem_cons_self).at c).zero]
    exact this _ fun r hr => (I.rest r hr).1
  unfold relStep pStep
  dsimp only
  rw [e]
  split
  · rfl
  · rename_i i h
    obtain ⟨hi, hp, _⟩ := findIdx_some (d := []) h
    have hr := mem_getD (d := []) hi
    obtain ⟨gr, gz⟩ := I.rest _ hr
    dsimp only
    generalize s.2.getD i [] = r at *
    have h0 : (r.getD c (0, 1)).1 ≠ 0 := fun z => by
      rw [zero_iff.mpr z] at hp
      exact absurd hp (by decide)
    have gp := led_good gr h0
    rw [led_is gr h0]
    generalize timesRow (inv (r.getD c (0, 1))) r = p at *
    refine Prod.ext ?_ ?_
    · show (s.1.map (·.2)).map _ ++ [p] = (s.1.map _ ++ [(c, p)]).map _
      rw [List.map_append, List.map_map, List.map_map]
      refine congrArg (· ++ [p]) (List.map_congr_left fun x hx => ?_)
      exact cleared_is (I.done x hx).2.1 gp
    · refine List.map_congr_left fun x hx => ?_
      have hy' : x ∈ s.2 := by
        rcases List.mem_append.mp hx with h | h
        · exact List.mem_of_mem_take h
        · exact List.mem_of_mem_drop h
      exact cleared_is (I.rest x hy').1 gp
theorem fold_is {w : Nat} {rows : List Row} (hg : ∀ r ∈ rows, Good w r) : ∀ c, c ≤ w → (List.range c).foldl relStep ([], rows) = (((List.range c).foldl pStep ([], rows)).1.map (·.2), ((List.range c).foldl pStep ([], rows)).2)
  | 0, _ => rfl
  | c + 1, h => by
    rw [List.range_succ, List.foldl_append, List.foldl_append, fold_is hg c (by omega)]
    exact relStep_is (fold_inv hg c (by omega))
/-- the program's relations are the specification's plain rows -/
theorem among_is {w : Nat} {rows : List Row} (hg : ∀ r ∈ rows, Good w r) : relationsAmong rows w = (plain w rows).map (·.2) := by
  unfold relationsAmong
  rw [fold_is hg w (Nat.le_refl w)]
  rfl
theorem plain_inv {w : Nat} {rows : List Row} (hg : ∀ r ∈ rows, Good w r) : (∀ x ∈ plain w rows, x.1 < w ∧ Good w x.2 ∧ (∀ k, k < x.1 → x.2.getD k (0, 1) = (0, 1)) ∧ x.2.getD x.1 (0, 1) = (1, 1)) ∧ ((plain w rows).map (·.1)).Pairwise (· < ·) := by
  have I := fold_inv hg w (Nat.le_refl w)
  rw [plain_is]
  exact ⟨I.done, I.up⟩
end Sl

/-! Weights that could be, and the ratio of two of them. -/
namespace Sl
open Kp340 Kp341 Kp342 Kp343
/-! ### weights that could be -/
def leadColumn (r : Row) : Nat := r.findIdx fun x => !decide (x = (0, 1))
def weightsWith (rels : List Row) (leads : List Nat) (w g : Nat) : Row :=
  (List.range rels.length).foldl (fun (ws : Row) (k : Nat) => ws.set (leads.getD k 0) (minusP (0, 1) ((rels.getD k []).getD g (0, 1)))) ((List.replicate w (0, 1)).set g (1, 1))
def couldBe (rels : List Row) (w : Nat) : List Row :=
  ((List.range w).filter fun c => !(rels.map leadColumn).contains c).map fun g => weightsWith rels (rels.map leadColumn) w g
theorem findIdx_at {α : Type} {p : α → Bool} : ∀ {l : List α} {i : Nat} (h : i < l.length), p l[i] = true → (∀ j, (hj : j < i) → p (l[j]'(by omega)) = false) → l.findIdx p = i
  | a :: l, 0, h, hp, _ => by
    rw [List.findIdx_cons]
    have : p a = true := hp
    rw [this]
    rfl
  | a :: l, i + 1, h, hp, hn => by
    have h0 : p a = false := hn 0 (by omega)
    have ih := findIdx_at (l := l) (i := i) (by simpa using h) hp fun j hj => hn (j + 1) (by omega)
    rw [List.findIdx_cons, h0, ih]
    rfl
theorem lead_is {w c : Nat} {r : Row} (g : Good w r) (hc : c < w) (z : ∀ k, k < c → r.getD k (0, 1) = (0, 1)) (o : r.getD c (0, 1) = (1, 1)) : leadColumn r = c := by
  have hl : c < r.length := by rw [g.1]; exact hc
  refine findIdx_at hl ?_ fun j hj => ?_
  · rw [← getD_of (d := (0, 1)) hl, o]
    decide
  · rw [← getD_of (d := (0, 1)) (show j < r.length by omega), z j hj]
    decide
/-- numbers put at places, all unlike: what stands then at each place -/
theorem put_all {α : Type} (d : α) (f : Nat → α) (leads : List Nat) : ∀ (n : Nat) (ws : List α), n ≤ leads.length → leads.Nodup → (∀ k, k < n → leads.getD k 0 < ws.length) →
    ((List.range n).foldl (fun (ws : List α) (k : Nat) => ws.set (leads.getD k 0) (f k)) ws).length = ws.length ∧
    ∀ c, c < ws.length → (∀ k, k < n → leads.getD k 0 = c → ((List.range n).foldl (fun (ws : List α) (k : Nat) => ws.set (leads.getD k 0) (f k)) ws).getD c d = f k) ∧
      ((∀ k, k < n → leads.getD k 0 ≠ c) → ((List.range n).foldl (fun (ws : List α) (k : Nat) => ws.set (leads.getD k 0) (f k)) ws).getD c d = ws.getD c d)
  | 0, ws, _, _, _ => ⟨rfl, fun c _ => ⟨fun k hk => absurd hk (Nat.not_lt_zero k), fun _ => rfl⟩⟩
  | n + 1, ws, hn, nd, hb => by
    obtain ⟨l1, h1⟩ := put_all d f leads n ws (by omega) nd fun k hk => hb k (by omega)
    rw [List.range_succ, List.foldl_append]
    generalize (List.range n).foldl (fun (ws : List α) (k : Nat) => ws.set (leads.getD k 0) (f k)) ws = W at *
    show (W.set (leads.getD n 0) (f n)).length = ws.length ∧ _
    refine ⟨by rw [List.length_set]; exact l1, fun c hc => ?_⟩
    obtain ⟨a, b⟩ := h1 c hc
    have same : ∀ x : α, leads.getD n 0 = c → (W.set (leads.getD n 0) x).getD c d = x := fun x e => by
      rw [e, getD_of (by rw [List.length_set]; omega), List.getElem_set_self]
    have other : ∀ x : α, leads.getD n 0 ≠ c → (W.set (leads.getD n 0) x).getD c d = W.getD c d := fun x e => by
      rw [getD_of (by rw [List.length_set]; omega), List.getElem_set_ne e]
      exact (getD_of (l := W) (by omega)).symm
    refine ⟨fun k hk e => ?_, fun hne => ?_⟩
    · by_cases hkn : k = n
      · subst hkn
        exact same _ e
      · show (W.set (leads.getD n 0) (f n)).getD c d = f k
        rw [other]
        · exact a k (by omega) e
        · intro e2
          have i1 : leads[k]'(by omega) = leads[n]'(by omega) := by
            rw [← getD_of (d := 0) (show k < leads.length by omega), ← getD_of (d := 0) (show n < leads.length by omega), e, e2]
          exact (List.pairwise_iff_getElem.mp nd k n (by omega) (by omega) (by omega)) i1
    · show (W.set (leads.getD n 0) (f n)).getD c d = ws.getD c d
      rw [other _ (hne n (by omega))]
      exact b fun k hk => hne k (by omega)
theorem pw_nodup {l : List Nat} (h : l.Pairwise (· < ·)) : l.Nodup := h.imp fun h => Nat.ne_of_lt h
/-- the program's weights are the specification's free rows -/
theorem could_is {w : Nat} {rows : List Row} (hg : ∀ r ∈ rows, Good w r) : couldBe ((plain w rows).map (·.2)) w = free w rows := by
  obtain ⟨hp, up⟩ := plain_inv hg
  unfold couldBe free
  dsimp only
  have el : ((plain w rows).map (·.2)).map leadColumn = (plain w rows).map (·.1) := by
    rw [List.map_map]
    refine List.map_congr_left fun x hx => ?_
    obtain ⟨a, b, c, d⟩ := hp x hx
    exact lead_is b a c d
  rw [el]
  generalize plain w rows = P at *
  have ec : ∀ c, (P.map (·.1)).contains c = P.any fun x => x.1 == c := fun c => by
    rw [List.contains_eq_any_beq, List.any_map]
    refine congrArg P.any (funext fun x => ?_)
    show (c == x.1) = (x.1 == c)
    exact Bool.beq_comm
  have ef : ((List.range w).filter fun c => !(P.map (·.1)).contains c) = (List.range w).filter fun c => !(P.any fun x => x.1 == c) := by
    refine congrArg (fun f => List.filter f (List.range w)) (funext fun c => ?_)
    rw [ec]
  rw [ef]
  refine List.map_congr_left fun g hgm => ?_
  obtain ⟨hgw, hgn⟩ := List.mem_filter.mp hgm
  have hgw : g < w := List.mem_range.mp hgw
  have hgn : ∀ x ∈ P, x.1 ≠ g := fun x hx e => by
    have : (P.any fun x => x.1 == g) = true := List.any_eq_true.mpr ⟨x, hx, beq_iff_eq.mpr e⟩
    rw [this] at hgn
    exact absurd hgn (by decide)
  unfold weightsWith
  have ln : (P.map (·.1)).length = P.length := List.length_map ..
  obtain ⟨l1, h1⟩ := put_all (0, 1) (fun k => minusP (0, 1) (((P.map (·.2)).getD k []).getD g (0, 1))) (P.map (·.1)) (P.map (·.2)).length ((List.replicate w ((0 : Int), (1 : Int))).set g (1, 1)) (by rw [List.length_map, List.length_map]; exact Nat.le_refl _) (pw_nodup up) (fun k hk => by
    rw [List.length_map] at hk
    rw [List.length_set, List.length_replicate, map_getD (d := (0, [])) hk]
    exact (hp _ (mem_getD hk)).1)
  refine ext_getD (d := (0, 1)) ?_ fun c hc => ?_
  · rw [l1, List.length_set, List.length_replicate, List.length_map, List.length_range]
  · have hcw : c < w := by
      rw [l1, List.length_set, List.length_replicate] at hc
      exact hc
    obtain ⟨a, b⟩ := h1 c (by rw [List.length_set, List.length_replicate]; exact hcw)
    rw [map_getD (d := 0) (by rw [List.length_range]; exact hcw), getD_of (l := List.range w) (by rw [List.length_range]; exact hcw), List.getElem_range]
    by_cases hcg : c = g
    · subst hcg
      rw [if_pos rfl, b ?_, getD_of (by rw [List.length_set, List.length_replicate]; exact hcw), List.getElem_set_self]
      intro k hk
      rw [List.length_map] at hk
      rw [map_getD (d := (0, [])) hk]
      exact hgn _ (mem_getD hk)
    · rw [if_neg hcg]
      split
      · rename_i x hx
        have hxm : x ∈ P := List.mem_of_find?_eq_some hx
        have hxe : x.1 = c := by
          have := List.find?_some hx
          exact beq_iff_eq.mp this
        obtain ⟨k, hk, rfl⟩ := List.mem_iff_getElem.mp hxm
        rw [a k (by rw [List.length_map]; exact hk) (by rw [map_getD (d := (0, [])) hk, getD_of hk]; exact hxe), map_getD (d := (0, [])) hk, getD_of (l := P) hk]
        exact minus_zero ((hp _ hxm).2.1.at g)
      · rename_i hx
        rw [b ?_, getD_of (by rw [List.length_set, List.length_replicate]; exact hcw), List.getElem_set_ne (fun e => hcg e.symm), List.getElem_replicate]
        intro k hk
        rw [List.length_map] at hk
        rw [map_getD (d := (0, [])) hk]
        intro e
        have := List.find?_eq_none.mp hx _ (mem_getD (d := (0, [])) hk)
        exact this (beq_iff_eq.mpr e)
theorem free_good {w : Nat} {rows : List Row} (hg : ∀ r ∈ rows, Good w r) : ∀ v ∈ free w rows, Good w v := by
  obtain ⟨hp, up⟩ := plain_inv hg
  intro v hv
  unfold free at hv
  dsimp only at hv
  obtain ⟨g, _, rfl⟩ := List.mem_map.mp hv
  refine ⟨by rw [List.length_map, List.length_range], fun x hx => ?_⟩
  obtain ⟨c, _, rfl⟩ := List.mem_map.mp hx
  split
  · exact ok11
  · split
    · rename_i y hy
      exact ((hp y (List.mem_of_find?_eq_some hy)).2.1.at g).neg
    · exact ok01
/-! ### the ratio -/
def ratioGo (i j : Nat) : List Row → Option Fr → Option (Option Fr)
  | [], f => some f
  | ws :: l, f => if ws.getD j (0, 1) = (0, 1) then (if ws.getD i (0, 1) = (0, 1) then ratioGo i j l f else none) else
    if f ≠ none ∧ f ≠ some (overP (ws.getD i (0, 1)) (ws.getD j (0, 1))) then none else ratioGo i j l (some (overP (ws.getD i (0, 1)) (ws.getD j (0, 1))))
def ratioEnd : Option (Option Fr) → Option Fr
  | some (some q) => if q.1 ≤ 0 then none else some q
  | _ => none
def ratioAmong (choices : List Row) (i j : Nat) : Option Fr := ratioEnd (ratioGo i j choices none)
def pGo : List (Fr × Fr) → Option Fr → Option (Option Fr)
  | [], f => some f
  | x :: l, f => if x.2 = (0, 1) then none else if f ≠ none ∧ f ≠ some (overP x.1 x.2) then none else pGo l (some (overP x.1 x.2))
theorem go_is {i j : Nat} : ∀ (l : List Row) (f : Option Fr), (∀ r ∈ l, ∃ w, Good w r) → ratioGo i j l f = pGo ((l.map fun v => (v.getD i (0, 1), v.getD j (0, 1))).filter fun x => !(zeroF x.1 && zeroF x.2)) f
  | [], f, _ => rfl
  | ws :: l, f, h => by
    obtain ⟨w, g⟩ := h ws List.mem_cons_self
    have ih := fun f => go_is (i := i) (j := j) l f fun r hr => h r (List.mem_cons_of_mem _ hr)
    rw [List.map_cons, List.filter_cons, (g.at i).zero, (g.at j).zero]
    unfold ratioGo
    by_cases hj : ws.getD j (0, 1) = (0, 1)
    · rw [if_pos hj, decide_eq_true hj, Bool.and_true]
      by_cases hi : ws.getD i (0, 1) = (0, 1)
      · rw [if_pos hi, decide_eq_true hi, ih]
        rfl
      · rw [if_neg hi, decide_eq_false hi]
        show none = pGo ((ws.getD i (0, 1), ws.getD j (0, 1)) :: _) f
        unfold pGo
        rw [if_pos hj]
    · rw [if_neg hj, decide_eq_false hj, Bool.and_false]
      show _ = pGo ((ws.getD i (0, 1), ws.getD j (0, 1)) :: _) f
      unfold pGo
      rw [if_neg hj, ih]
theorem pGo_some (q : Fr) : ∀ l : List (Fr × Fr), pGo l (some q) = if (l.all fun y => !decide (y.2 = (0, 1)) && decide (overP y.1 y.2 = q)) = true then some (some q) else none
  | [] => rfl
  | y :: l => by
    unfold pGo
    rw [List.all_cons]
    by_cases h2 : y.2 = (0, 1)
    · rw [if_pos h2, decide_eq_true h2]
      rfl
    · rw [if_neg h2, decide_eq_false h2]
      by_cases hq : overP y.1 y.2 = q
      · rw [hq, if_neg (fun z => z.2 rfl), pGo_some q l, decide_eq_true rfl]
        rfl
      · rw [if_pos ⟨(by intro z; cases z), fun z => hq (Option.some.inj z).symm⟩, decide_eq_false hq]
        rfl
theorem fr_inj {a b c d : Int} (hb : b ≠ 0) (hd : d ≠ 0) (e : fr a b = fr c d) : a * d = c * b := by
  have h1 := fr_cross a b hb
  have h2 := fr_cross c d hd
  rw [e] at h1
  have n := (fr_ok c d hd).ne
  have : (a * d - c * b) * (fr c d).2 = 0 := by grind
  rcases Int.mul_eq_zero.mp this with h | h
  · omega
  · exact absurd h n
theorem ne_zero {x : Fr} (h : Ok x) (n : x ≠ (0, 1)) : x.1 ≠ 0 := fun z => n (ok_zero h (zero_iff.mpr z))
theorem same_ratio {x y : Fr × Fr} (x1 : Ok x.1) (x2 : Ok x.2) (y1 : Ok y.1) (y2 : Ok y.2) (nx1 : x.1.1 ≠ 0) (nx2 : x.2.1 ≠ 0) (ny : (zeroF y.1 && zeroF y.2) = false) :
    (!decide (y.2 = (0, 1)) && decide (overP y.1 y.2 = overP x.1 x.2)) = !(mul x.1 y.2 != mul x.2 y.1) := by
  have key : (mul x.1 y.2 = mul x.2 y.1) ↔ (y.2 ≠ (0, 1) ∧ overP y.1 y.2 = overP x.1 x.2) := by
    constructor
    · intro e
      have e2 := fr_inj (mulne x1.ne y2.ne) (mulne x2.ne y1.ne) e
      have n2 : y.2 ≠ (0, 1) := fun z => by
        rw [z] at e2
        have e3 : x.2.1 * y.1.1 * x.1.2 = 0 := by
          have : x.1.1 * 0 * (x.2.2 * y.1.2) = x.2.1 * y.1.1 * (x.1.2 * 1) := e2
          grind
        rcases Int.mul_eq_zero.mp e3 with h | h
        · rcases Int.mul_eq_zero.mp h with h | h
          · exact nx2 h
          · rw [zero_iff.mpr h, z] at ny
            exact absurd ny (by decide)
        · exact x1.ne h
      refine ⟨n2, fr_eq (mulne y1.ne (ne_zero y2 n2)) (mulne x1.ne nx2) ?_⟩
      grind
    · rintro ⟨n2, e⟩
      have e2 := fr_inj (mulne y1.ne (ne_zero y2 n2)) (mulne x1.ne nx2) e
      refine fr_eq (mulne x1.ne y2.ne) (mulne x2.ne y1.ne) ?_
      grind
  by_cases h : mul x.1 y.2 = mul x.2 y.1
  · obtain ⟨a, b⟩ := key.mp h
    rw [decide_eq_false a, decide_eq_true b, h, bne_self_eq_false]
    rfl
  · have hb : (mul x.1 y.2 != mul x.2 y.1) = true := bne_iff_ne.mpr h
    rw [hb]
    by_cases n2 : y.2 = (0, 1)
    · rw [decide_eq_true n2]
      rfl
    · by_cases e : overP y.1 y.2 = overP x.1 x.2
      · exact absurd (key.mpr ⟨n2, e⟩) h
      · rw [decide_eq_false e, Bool.and_false]
        rfl
theorem ratio_is {m : Net} {w a b : Nat} (hg : ∀ v ∈ room m, Good w v) : ratioAmong (room m) a b = ratioAt m a b := by
  unfold ratioAmong ratioAt
  dsimp only
  rw [go_is _ _ fun r hr => ⟨w, hg r hr⟩]
  have hps : ∀ x ∈ ((room m).map fun v => (v.getD a (0, 1), v.getD b (0, 1))).filter fun x => !(zeroF x.1 && zeroF x.2), Ok x.1 ∧ Ok x.2 ∧ (zeroF x.1 && zeroF x.2) = false := by
    intro x hx
    obtain ⟨h1, h2⟩ := List.mem_filter.mp hx
    obtain ⟨v, hv, rfl⟩ := List.mem_map.mp h1
    exact ⟨(hg v hv).at a, (hg v hv).at b, by rwa [Bool.not_eq_true'] at h2⟩
  generalize ((room m).map fun v => (v.getD a (0, 1), v.getD b (0, 1))).filter (fun x => !(zeroF x.1 && zeroF x.2)) = ps at *
  cases ps with
  | nil => rfl
  | cons x l =>
    obtain ⟨o1, o2, nz⟩ := hps x List.mem_cons_self
    dsimp only
    unfold pGo
    by_cases h2 : x.2 = (0, 1)
    · rw [if_pos h2]
      have : zeroF x.2 = true := by rw [h2]; rfl
      rw [this, Bool.or_true, Bool.true_or]
      rfl
    · rw [if_neg h2, if_neg (fun z => z.1 rfl), pGo_some]
      have z2 : zeroF x.2 = false := by rw [o2.zero, decide_eq_false h2]
      have n2 := ne_zero o2 h2
      rw [z2, Bool.or_false]
      by_cases h1 : x.1 = (0, 1)
      · have z1 : zeroF x.1 = true := by rw [h1]; rfl
        have e0 : (overP x.1 x.2).1 ≤ 0 := by
          have : overP x.1 x.2 = (0, 1) := fr_is (mulne o1.ne n2) ok01 (by rw [h1]; show 0 * x.2.2 * 1 = 0 * (1 * x.2.1); omega)
          rw [this]
          decide
        rw [z1, Bool.true_or]
        split
        · show (if (overP x.1 x.2).1 ≤ 0 then none else _) = _
          rw [if_pos e0]
          rfl
        · rfl
      · have z1 : zeroF x.1 = false := by rw [o1.zero, decide_eq_false h1]
        have n1 := ne_zero o1 h1
        rw [z1, Bool.false_or]
        have ea : (l.all fun y => !decide (y.2 = (0, 1)) && decide (overP y.1 y.2 = overP x.1 x.2)) = !(l.any fun y => mul x.1 y.2 != mul x.2 y.1) := by
          have : ∀ k : List (Fr × Fr), (∀ y ∈ k, Ok y.1 ∧ Ok y.2 ∧ (zeroF y.1 && zeroF y.2) = false) → (k.all fun y => !decide (y.2 = (0, 1)) && decide (overP y.1 y.2 = overP x.1 x.2)) = !(k.any fun y => mul x.1 y.2 != mul x.2 y.1) := by
            intro k
            induction k with
            | nil => intro _; rfl
            | cons y k ih =>
              intro h
              obtain ⟨p1, p2, pz⟩ := h y List.mem_cons_self
              rw [List.all_cons, List.any_cons, ih fun z hz => h z (List.mem_cons_of_mem _ hz), same_ratio o1 o2 p1 p2 n1 n2 pz, Bool.not_or]
          exact this l fun y hy => hps y (List.mem_cons_of_mem _ hy)
        rw [ea, over_is' o1 o2 n2]
        cases l.any fun y => mul x.1 y.2 != mul x.2 y.1
        · show (if (mul x.1 (inv x.2)).1 ≤ 0 then none else some (mul x.1 (inv x.2))) = if decide (0 < (mul x.1 (inv x.2)).1) = true then some (mul x.1 (inv x.2)) else none
          by_cases h : (mul x.1 (inv x.2)).1 ≤ 0
          · rw [if_pos h, decide_eq_false (by omega)]
            rfl
          · rw [if_neg h, decide_eq_true (by omega)]
            rfl
        · rfl
end Sl

/-! The mixtures, those taken, what they bring, ratios and levels: the mirror is the specification. -/
namespace Sl
open Kp340 Kp341 Kp342 Kp343
/-! ### the mixtures -/
def addMix (ms : List Mix) (x : Mix) : List Mix := if ms.contains x then ms else ms ++ [x]
def mixturesOf (rules : List Rule) : List Mix := rules.foldl (fun ms r => addMix (addMix ms r.left) r.right) []
theorem loop_is : ∀ (l bs : List Mix), List.eraseDupsBy.loop (fun x y => x == y) l bs = l.foldl addMix bs.reverse
  | [], bs => rfl
  | a :: l, bs => by
    have e : bs.reverse.contains a = bs.any (fun y => a == y) := by
      rw [List.contains_eq_any_beq, List.any_reverse]
    show (match bs.any (fun y => a == y) with
      | true => List.eraseDupsBy.loop (fun x y => x == y) l bs
      | false => List.eraseDupsBy.loop (fun x y => x == y) l (a :: bs)) = l.foldl addMix (addMix bs.reverse a)
    unfold addMix
    rw [e]
    cases bs.any (fun y => a == y)
    · show List.eraseDupsBy.loop (fun x y => x == y) l (a :: bs) = _
      rw [loop_is l (a :: bs), List.reverse_cons]
      rfl
    · exact loop_is l bs
theorem fold_flat (f : List Mix → Mix → List Mix) : ∀ (rules : List Rule) (acc : List Mix), (rules.flatMap fun r => [r.left, r.right]).foldl f acc = rules.foldl (fun ms r => f (f ms r.left) r.right) acc
  | [], _ => rfl
  | r :: l, acc => by
    rw [List.flatMap_cons, List.foldl_append, List.foldl_cons]
    exact fold_flat f l _
theorem mixtures_is (m : Net) : mixturesOf m.rules = mixtures m := by
  unfold mixturesOf mixtures List.eraseDups List.eraseDupsBy
  rw [loop_is, fold_flat]
  rfl
theorem addMix_nodup {ms : List Mix} {x : Mix} (h : ms.Nodup) : (addMix ms x).Nodup := by
  unfold addMix
  split
  · exact h
  · rename_i hc
    refine List.nodup_append.mpr ⟨h, List.pairwise_singleton _ _, fun a ha b hb => ?_⟩
    rw [List.mem_singleton.mp hb]
    intro e
    subst e
    exact hc (List.contains_iff_mem.mpr ha)
theorem fold_nodup : ∀ (l : List Rule) (acc : List Mix), acc.Nodup → (l.foldl (fun ms r => addMix (addMix ms r.left) r.right) acc).Nodup
  | [], _, h => h
  | r :: l, acc, h => fold_nodup l _ (addMix_nodup (addMix_nodup h))
theorem mix_nodup (m : Net) : (mixtures m).Nodup := by
  rw [← mixtures_is]
  exact fold_nodup m.rules [] List.Pairwise.nil
theorem mem_mix {m : Net} {x : Mix} : x ∈ mixtures m ↔ ∃ r ∈ m.rules, x = r.left ∨ x = r.right := by
  unfold mixtures
  rw [List.mem_eraseDups, List.mem_flatMap]
  constructor
  · rintro ⟨r, hr, h⟩
    refine ⟨r, hr, ?_⟩
    simpa using h
  · rintro ⟨r, hr, h⟩
    refine ⟨r, hr, ?_⟩
    simpa using h
theorem addMix_len (ms : List Mix) (x : Mix) : (addMix ms x).length ≤ ms.length + 1 := by
  unfold addMix
  split
  · omega
  · rw [List.length_append]
    exact Nat.le_refl _
theorem fold_len : ∀ (l : List Rule) (acc : List Mix), (l.foldl (fun ms r => addMix (addMix ms r.left) r.right) acc).length ≤ acc.length + 2 * l.length
  | [], acc => by simp
  | r :: l, acc => by
    have h := fold_len l (addMix (addMix acc r.left) r.right)
    have h1 := addMix_len acc r.left
    have h2 := addMix_len (addMix acc r.left) r.right
    rw [List.foldl_cons, List.length_cons]
    omega
theorem mix_len (m : Net) : (mixtures m).length ≤ 2 * m.rules.length := by
  rw [← mixtures_is]
  have := fold_len m.rules []
  simpa [mixturesOf] using this
/-! ### places -/
theorem idx_nodup {α : Type} [BEq α] [LawfulBEq α] {l : List α} (nd : l.Nodup) {i : Nat} (hi : i < l.length) : (l.findIdx fun y => y == l[i]) = i := by
  refine findIdx_at hi (beq_self_eq_true _) fun j hj => ?_
  have := List.pairwise_iff_getElem.mp nd j i (by omega) hi hj
  exact beq_eq_false_iff_ne.mpr this
theorem idx_mem {α : Type} [BEq α] [LawfulBEq α] {l : List α} {x : α} (h : x ∈ l) : (l.findIdx fun y => y == x) < l.length ∧ ∀ d, l.getD (l.findIdx fun y => y == x) d = x := by
  have h1 : (l.findIdx fun y => y == x) < l.length := List.findIdx_lt_length_of_exists ⟨x, h, beq_self_eq_true x⟩
  refine ⟨h1, fun d => ?_⟩
  rw [getD_of h1]
  have := List.findIdx_getElem (p := fun y => y == x) (w := h1)
  exact beq_iff_eq.mp this
/-! ### the mixtures taken -/
def numbersTaken (rules : List Rule) : List Nat := (List.range (mixturesOf rules).length).filter fun i => (rules.map (·.left)).contains ((mixturesOf rules).getD i [])
def mixturesTaken (rules : List Rule) : List Mix := (numbersTaken rules).map fun i => (mixturesOf rules).getD i []
theorem from_iff {m : Net} {r : Rule} (hr : r ∈ m.rules) {i : Nat} (hi : i < (mixtures m).length) : (fromOf m r == i) = decide (r.left = (mixtures m).getD i []) := by
  have hm : r.left ∈ mixtures m := mem_mix.mpr ⟨r, hr, .inl rfl⟩
  obtain ⟨h1, h2⟩ := idx_mem hm
  unfold fromOf placeOf
  by_cases e : r.left = (mixtures m).getD i []
  · rw [decide_eq_true e, e, getD_of hi, idx_nodup (mix_nodup m) hi]
    exact beq_self_eq_true i
  · rw [decide_eq_false e]
    refine beq_eq_false_iff_ne.mpr fun z => e ?_
    rw [← z]
    exact (h2 []).symm
theorem lefts_is (m : Net) : numbersTaken m.rules = lefts m := by
  unfold numbersTaken lefts
  rw [mixtures_is]
  refine List.filter_congr fun i hi => ?_
  have hi := List.mem_range.mp hi
  rw [List.contains_eq_any_beq, List.any_map]
  have : ∀ l : List Rule, (∀ r ∈ l, r ∈ m.rules) → (l.any ((fun x => (mixtures m).getD i [] == x) ∘ fun x => x.left)) = l.any fun r => fromOf m r == i := by
    intro l
    induction l with
    | nil => intro _; rfl
    | cons r l ih =>
      intro h
      rw [List.any_cons, List.any_cons, ih fun q hq => h q (List.mem_cons_of_mem _ hq), from_iff (h r List.mem_cons_self) hi]
      refine congrArg (· || _) ?_
      show ((mixtures m).getD i [] == r.left) = decide (r.left = (mixtures m).getD i [])
      by_cases e : r.left = (mixtures m).getD i []
      · rw [decide_eq_true e, ← e]
        exact beq_self_eq_true _
      · rw [decide_eq_false e]
        exact beq_eq_false_iff_ne.mpr fun z => e z.symm
  exact this m.rules fun r h => h
theorem lefts_nodup (m : Net) : (lefts m).Nodup := by
  unfold lefts
  exact List.Pairwise.filter _ (List.nodup_range)
theorem lefts_lt {m : Net} {i : Nat} (h : i ∈ lefts m) : i < (mixtures m).length := by
  unfold lefts at h
  exact List.mem_range.mp (List.mem_filter.mp h).1
theorem taken_is (m : Net) : mixturesTaken m.rules = (lefts m).map (mixAt m) := by
  unfold mixturesTaken mixAt
  rw [lefts_is, mixtures_is]
theorem taken_len (m : Net) : (mixturesTaken m.rules).length = (lefts m).length := by rw [taken_is, List.length_map]
/-! ### what they bring -/
def brought (rules : List Rule) (mix : Mix) (s : Nat) : Fr := rules.foldl (fun (t : Fr) (r : Rule) => if r.left = mix then plusP t (timesP r.speed (delta r s, 1)) else t) (0, 1)
theorem brought_is {m : Net} {i s : Nat} (hi : i < (mixtures m).length) : brought m.rules (mixAt m i) s = sumF ((m.rules.filter fun r => fromOf m r == i).map fun r => mul r.speed (ofInt (delta r s))) := by
  unfold brought sumF
  rw [List.foldl_map, List.foldl_filter]
  have : ∀ (l : List Rule) (t : Fr), (∀ r ∈ l, r ∈ m.rules) → l.foldl (fun (t : Fr) (r : Rule) => if r.left = mixAt m i then plusP t (timesP r.speed (delta r s, 1)) else t) t = l.foldl (fun x y => if (fromOf m y == i) = true then add x (mul y.speed (ofInt (delta y s))) else x) t := by
    intro l
    induction l with
    | nil => intro _ _; rfl
    | cons r l ih =>
      intro t h
      rw [List.foldl_cons, List.foldl_cons, ih _ fun q hq => h q (List.mem_cons_of_mem _ hq), from_iff (h r List.mem_cons_self) hi]
      refine congrArg (fun z => List.foldl _ z l) ?_
      by_cases e : r.left = mixAt m i
      · rw [if_pos e, if_pos (decide_eq_true (show r.left = (mixtures m).getD i [] from e))]
        rfl
      · rw [if_neg e, if_neg (fun z : decide (r.left = (mixtures m).getD i []) = true => e (of_decide_eq_true z))]
  exact this m.rules (0, 1) fun r h => h
def broughtRows (rules : List Rule) (n : Nat) : List Row := (List.range n).map fun s => (mixturesTaken rules).map fun x => brought rules x s
theorem rows_is (m : Net) : broughtRows m.rules m.n = brings m := by
  unfold broughtRows brings
  refine List.map_congr_left fun s _ => ?_
  rw [taken_is, List.map_map]
  exact List.map_congr_left fun i hi => brought_is (lefts_lt hi)
/-! ### good nets -/
structure RuleOk (n : Nat) (r : Rule) : Prop where
  left : r.left.length = n
  right : r.right.length = n
  small : (∀ x ∈ r.left, x ≤ 3) ∧ ∀ x ∈ r.right, x ≤ 3
  ne : r.left ≠ r.right
  ok : Ok r.speed
  lo : 1 ≤ r.speed.1 ∧ r.speed.1 ≤ 1000 ∧ r.speed.2 ≤ 1000
structure NetOk (m : Net) : Prop where
  n : 1 ≤ m.n ∧ m.n ≤ 4
  few : m.rules.length ≤ 8
  each : ∀ r ∈ m.rules, RuleOk m.n r
theorem brought_ok {rules : List Rule} (h : ∀ r ∈ rules, Ok r.speed) (x : Mix) (s : Nat) : Ok (brought rules x s) := by
  unfold brought
  have : ∀ (l : List Rule) (t : Fr), (∀ r ∈ l, Ok r.speed) → Ok t → Ok (l.foldl (fun (t : Fr) (r : Rule) => if r.left = x then plusP t (timesP r.speed (delta r s, 1)) else t) t) := by
    intro l
    induction l with
    | nil => intro t _ ht; exact ht
    | cons r l ih =>
      intro t h ht
      refine ih _ (fun q hq => h q (List.mem_cons_of_mem _ hq)) ?_
      dsimp only
      split
      · exact add_ok ht (mul_ok (h r List.mem_cons_self) (okI _))
      · exact ht
  exact this rules (0, 1) h ok01
theorem rows_good {rules : List Rule} (h : ∀ r ∈ rules, Ok r.speed) (n : Nat) : ∀ r ∈ broughtRows rules n, Good (mixturesTaken rules).length r := by
  intro r hr
  unfold broughtRows at hr
  obtain ⟨s, _, rfl⟩ := List.mem_map.mp hr
  refine ⟨by rw [List.length_map], fun x hx => ?_⟩
  obtain ⟨y, _, rfl⟩ := List.mem_map.mp hx
  exact brought_ok h y s
def relationsOf (rules : List Rule) (n : Nat) : List Row := relationsAmong (broughtRows rules n) (mixturesTaken rules).length
def choicesOf (rules : List Rule) (n : Nat) : List Row := couldBe (relationsOf rules n) (mixturesTaken rules).length
theorem speeds_ok {m : Net} (h : NetOk m) : ∀ r ∈ m.rules, Ok r.speed := fun r hr => (h.each r hr).ok
theorem relations_is {m : Net} (h : NetOk m) : relationsOf m.rules m.n = relations m := by
  unfold relationsOf relations
  rw [among_is (rows_good (speeds_ok h) m.n), rows_is, taken_len]
theorem choices_is {m : Net} (h : NetOk m) : choicesOf m.rules m.n = room m := by
  unfold choicesOf relationsOf room
  rw [among_is (rows_good (speeds_ok h) m.n), could_is (rows_good (speeds_ok h) m.n), rows_is, taken_len]
theorem brings_good {m : Net} (h : NetOk m) : ∀ r ∈ brings m, Good (lefts m).length r := by
  rw [← rows_is, ← taken_len]
  exact rows_good (speeds_ok h) m.n
theorem room_good {m : Net} (h : NetOk m) : ∀ v ∈ room m, Good (lefts m).length v := free_good (brings_good h)
/-! ### ratio and level -/
def ratioOf (rules : List Rule) (n i j : Nat) : Option Fr := ratioAmong (choicesOf rules n) ((numbersTaken rules).findIdx fun k => k == i) ((numbersTaken rules).findIdx fun k => k == j)
theorem ratioOf_is {m : Net} (h : NetOk m) (i j : Nat) : ratioOf m.rules m.n i j = ratioAt m (spot m i) (spot m j) := by
  unfold ratioOf spot
  rw [choices_is h, lefts_is, ratio_is (room_good h)]
def moreBy (a b : Mix) (s : Nat) : Int := if (List.range a.length).any (fun k => k != s && a.getD k 0 != b.getD k 0) then 0 else max ((a.getD s 0 : Int) - (b.getD s 0 : Int)) 0
def levelGo (rules : List Rule) (n s i j : Nat) : Option (Int × Fr) :=
  if 0 < moreBy ((mixturesTaken rules).getD i []) ((mixturesTaken rules).getD j []) s then (ratioAmong (choicesOf rules n) i j).map fun q => (moreBy ((mixturesTaken rules).getD i []) ((mixturesTaken rules).getD j []) s, q) else none
def levelP (rules : List Rule) (n s : Nat) : Option (Int × Fr) :=
  (List.range (mixturesTaken rules).length).findSome? fun i => (List.range (mixturesTaken rules).length).findSome? fun j => levelGo rules n s i j
/-- one that's in a list alone -/
theorem filter_one {n s : Nat} {p : Nat → Bool} (hs : s < n) (hp : p s = true) (ho : ∀ k, k < n → k ≠ s → p k = false) : (List.range n).filter p = [s] := by
  have e : (List.range n).filter p = (List.range n).filter fun k => k == s := by
    refine List.filter_congr fun k hk => ?_
    have hk := List.mem_range.mp hk
    by_cases z : k = s
    · subst z
      rw [hp, beq_self_eq_true]
    · rw [ho k hk z, beq_eq_false_iff_ne.mpr z]
  rw [e]
  have : ∀ n, s < n → (List.range n).filter (fun k => k == s) = [s] := by
    intro n
    induction n with
    | zero => intro h; omega
    | succ n ih =>
      intro h
      rw [List.range_succ, List.filter_append]
      by_cases z : s = n
      · subst z
        have : (List.range s).filter (fun k => k == s) = [] := by
          refine List.filter_eq_nil_iff.mpr fun k hk => ?_
          have := List.mem_range.mp hk
          exact fun z => by have := beq_iff_eq.mp z; omega
        rw [this]
        simp
      · rw [ih (by omega)]
        have : ([n].filter fun k => k == s) = [] := by
          refine List.filter_eq_nil_iff.mpr fun k hk => ?_
          rw [List.mem_singleton.mp hk]
          exact fun z' => by have := beq_iff_eq.mp z'; omega
        rw [this]
        rfl
  exact this n hs
theorem butOne_is {m : Net} {i j s : Nat} (hs : s < m.n) (hl : (mixAt m i).length = m.n) :
    (∀ e, butOne m i j = some (s, e) → 0 < e → moreBy (mixAt m i) (mixAt m j) s = e) ∧ (0 < moreBy (mixAt m i) (mixAt m j) s → butOne m i j = some (s, moreBy (mixAt m i) (mixAt m j) s)) := by
  have dget : ∀ k, k < m.n → ((List.range m.n).map fun s => ((mixAt m i).getD s 0 : Int) - ((mixAt m j).getD s 0 : Int)).getD k 0 = ((mixAt m i).getD k 0 : Int) - ((mixAt m j).getD k 0 : Int) := fun k hk => by
    rw [map_getD (d := 0) (by rw [List.length_range]; exact hk), getD_of (l := List.range m.n) (by rw [List.length_range]; exact hk), List.getElem_range]
  have key : ∀ k, k < m.n → ((((List.range m.n).map fun s => ((mixAt m i).getD s 0 : Int) - ((mixAt m j).getD s 0 : Int)).getD k 0 != 0) = true ↔ (mixAt m i).getD k 0 ≠ (mixAt m j).getD k 0) := fun k hk => by
    rw [dget k hk, bne_iff_ne]
    constructor
    · intro h z
      exact h (by rw [z]; omega)
    · intro h z
      exact h (by omega)
  constructor
  · intro e h he
    unfold butOne at h
    dsimp only at h
    split at h
    · rename_i t ht
      obtain ⟨rfl, rfl⟩ : t = s ∧ _ = e := by
        have := Option.some.inj h
        exact ⟨(Prod.mk.inj this).1, (Prod.mk.inj this).2⟩
      have hall : ∀ k, k < m.n → k ≠ t → (mixAt m i).getD k 0 = (mixAt m j).getD k 0 := fun k hk hne => by
        rcases Decidable.em ((mixAt m i).getD k 0 = (mixAt m j).getD k 0) with z | z
        · exact z
        · have : k ∈ (List.range m.n).filter fun s_1 => (((List.range m.n).map fun s => ((mixAt m i).getD s 0 : Int) - ((mixAt m j).getD s 0 : Int)).getD s_1 0 != 0) := List.mem_filter.mpr ⟨List.mem_range.mpr hk, (key k hk).mpr z⟩
          rw [ht] at this
          exact absurd (List.mem_singleton.mp this) hne
      have hany : (List.range (mixAt m i).length).any (fun k => k != t && (mixAt m i).getD k 0 != (mixAt m j).getD k 0) = false := by
        refine List.any_eq_false.mpr fun k hk => ?_
        have hk := List.mem_range.mp hk
        rw [hl] at hk
        by_cases z : k = t
        · subst z
          simp
        · rw [hall k hk z]
          simp
      rw [dget t hs] at he ⊢
      unfold moreBy
      rw [hany]
      show max _ 0 = _
      omega
    · cases h
  · intro h
    unfold moreBy at h ⊢
    split at h
    · exact absurd h (by omega)
    · rename_i ha
      rw [if_neg ha]
      have hall : ∀ k, k < m.n → k ≠ s → (mixAt m i).getD k 0 = (mixAt m j).getD k 0 := fun k hk hne => by
        rcases Decidable.em ((mixAt m i).getD k 0 = (mixAt m j).getD k 0) with z | z
        · exact z
        · exfalso
          refine ha (List.any_eq_true.mpr ⟨k, List.mem_range.mpr (by omega), ?_⟩)
          rw [bne_iff_ne.mpr hne, bne_iff_ne.mpr z]
          rfl
      have hne : (mixAt m i).getD s 0 ≠ (mixAt m j).getD s 0 := fun z => by
        rw [z] at h
        omega
      unfold butOne
      dsimp only
      rw [filter_one hs ((key s hs).mpr hne) fun k hk hks => by
        rw [dget k hk, hall k hk hks]
        simp]
      dsimp only
      rw [dget s hs]
      refine congrArg (fun z => some (s, z)) ?_
      omega
theorem mixAt_len {m : Net} (h : NetOk m) {i : Nat} (hi : i < (mixtures m).length) : (mixAt m i).length = m.n := by
  have hm : mixAt m i ∈ mixtures m := mem_getD hi
  obtain ⟨r, hr, e⟩ := mem_mix.mp hm
  rcases e with e | e
  · rw [e]; exact (h.each r hr).left
  · rw [e]; exact (h.each r hr).right
theorem findSome_congr {α β : Type} {l : List α} {f g : α → Option β} (h : ∀ x ∈ l, f x = g x) : l.findSome? f = l.findSome? g := by
  induction l with
  | nil => rfl
  | cons a l ih =>
    rw [List.findSome?_cons, List.findSome?_cons, h a List.mem_cons_self, ih fun x hx => h x (List.mem_cons_of_mem _ hx)]
theorem findSome_map {α β γ : Type} {l : List α} {f : α → Option β} {g : β → γ} : (l.findSome? f).map g = l.findSome? fun x => (f x).map g := by
  induction l with
  | nil => rfl
  | cons a l ih =>
    rw [List.findSome?_cons, List.findSome?_cons]
    cases f a with
    | none => exact ih
    | some b => rfl
theorem range_at {α : Type} (l : List α) (d : α) : l = (List.range l.length).map fun k => l.getD k d := by
  refine ext_getD (d := d) (by rw [List.length_map, List.length_range]) fun k hk => ?_
  rw [map_getD (d := 0) (by rw [List.length_range]; exact hk), getD_of (l := List.range l.length) (by rw [List.length_range]; exact hk), List.getElem_range]
theorem spot_at {m : Net} {k : Nat} (hk : k < (lefts m).length) : spot m ((lefts m).getD k 0) = k := by
  unfold spot
  rw [getD_of hk]
  exact idx_nodup (lefts_nodup m) hk
theorem level_is {m : Net} (h : NetOk m) {s : Nat} (hs : s < m.n) : levelOf m s = (levelP m.rules m.n s).map fun x => (x.1.toNat, x.2) := by
  have over : ∀ {β : Type} (f : Nat → Option β), (lefts m).findSome? f = (List.range (lefts m).length).findSome? fun k => f ((lefts m).getD k 0) := fun f => by
    conv => lhs; rw [range_at (lefts m) 0]
    rw [List.findSome?_map]
    rfl
  unfold levelOf levelP
  rw [findSome_map, over, taken_len]
  refine findSome_congr fun i hi => ?_
  have hi := List.mem_range.mp hi
  rw [findSome_map, over]
  refine findSome_congr fun j hj => ?_
  have hj := List.mem_range.mp hj
  have li := lefts_lt (mem_getD (d := 0) hi)
  unfold levelGo
  rw [choices_is h, taken_is, map_getD (d := 0) hi, map_getD (d := 0) hj, ratio_is (room_good h), spot_at hi, spot_at hj]
  generalize (lefts m).getD i 0 = a at *
  generalize (lefts m).getD j 0 = b at *
  obtain ⟨k1, k2⟩ := butOne_is (m := m) (i := a) (j := b) hs (mixAt_len h li)
  by_cases hp : 0 < moreBy (mixAt m a) (mixAt m b) s
  · rw [if_pos hp, k2 hp]
    dsimp only
    rw [if_pos ⟨rfl, hp⟩, Option.map_map]
    rfl
  · rw [if_neg hp]
    split
    · rename_i t e he
      rw [if_neg]
      · rfl
      · rintro ⟨rfl, z⟩
        exact hp (by rw [k1 e he z]; exact z)
    · rfl
end Sl

/-! How great the numbers get. -/
namespace Sl
open Kp340 Kp341 Kp342 Kp343
def Small (n : Nat) (x : Fr) : Prop := x.1.natAbs < 2 ^ n ∧ x.2.natAbs < 2 ^ n
theorem Small.mono {a b : Nat} {x : Fr} (h : Small a x) (l : a ≤ b) : Small b x := ⟨Nat.lt_of_lt_of_le h.1 (Nat.pow_le_pow_right (by decide) l), Nat.lt_of_lt_of_le h.2 (Nat.pow_le_pow_right (by decide) l)⟩
theorem small01 : Small 1 (0, 1) := ⟨by decide, by decide⟩
theorem small11 : Small 1 (1, 1) := ⟨by decide, by decide⟩
theorem Small.neg {n : Nat} {x : Fr} (h : Small n x) : Small n (neg x) := ⟨by show (-x.1).natAbs < _; rw [Int.natAbs_neg]; exact h.1, h.2⟩
theorem lt_mul {i j : Int} {a b : Nat} (ha : i.natAbs < 2 ^ a) (hb : j.natAbs < 2 ^ b) : (i * j).natAbs < 2 ^ (a + b) := by
  rw [Int.natAbs_mul, Nat.pow_add]
  exact Nat.mul_lt_mul'' ha hb
theorem lt_add {i j : Int} {a : Nat} (ha : i.natAbs < 2 ^ a) (hb : j.natAbs < 2 ^ a) : (i + j).natAbs < 2 ^ (a + 1) := by
  have : (2 : Nat) ^ (a + 1) = 2 ^ a + 2 ^ a := by rw [Nat.pow_succ]; omega
  omega
theorem lt_sub {i j : Int} {a : Nat} (ha : i.natAbs < 2 ^ a) (hb : j.natAbs < 2 ^ a) : (i - j).natAbs < 2 ^ (a + 1) := by
  have : (2 : Nat) ^ (a + 1) = 2 ^ a + 2 ^ a := by rw [Nat.pow_succ]; omega
  omega
theorem lt_mono {i : Int} {a b : Nat} (h : i.natAbs < 2 ^ a) (l : a ≤ b) : i.natAbs < 2 ^ b := Nat.lt_of_lt_of_le h (Nat.pow_le_pow_right (by decide) l)
theorem fr_small {a b : Int} {n : Nat} (hb : b ≠ 0) (ha : a.natAbs < 2 ^ n) (hn : b.natAbs < 2 ^ n) : Small n (fr a b) := by
  obtain ⟨h1, h2⟩ := fr_le a b hb
  exact ⟨by omega, by omega⟩
theorem mul_small {a b : Nat} {p q : Fr} (hp : Ok p) (hq : Ok q) (sp : Small a p) (sq : Small b q) : Small (a + b) (mul p q) := fr_small (mulne hp.ne hq.ne) (lt_mul sp.1 sq.1) (lt_mul sp.2 sq.2)
theorem add_small {a b : Nat} {p q : Fr} (hp : Ok p) (hq : Ok q) (sp : Small a p) (sq : Small b q) : Small (a + b + 1) (add p q) :=
  fr_small (mulne hp.ne hq.ne) (lt_add (lt_mul sp.1 sq.2) (by rw [Nat.add_comm a b]; exact lt_mul sq.1 sp.2)) (lt_mono (lt_mul sp.2 sq.2) (by omega))
/-- a row over one number below -/
def RowB (n : Nat) (r : Row) : Prop := ∃ (d : Int) (z : List Int), d ≠ 0 ∧ d.natAbs < 2 ^ n ∧ (∀ x ∈ z, x.natAbs < 2 ^ n) ∧ r = z.map fun x => fr x d
theorem RowB.small {n : Nat} {r : Row} (h : RowB n r) : ∀ x ∈ r, Small n x := by
  obtain ⟨d, z, hd, hn, hz, rfl⟩ := h
  intro x hx
  obtain ⟨y, hy, rfl⟩ := List.mem_map.mp hx
  exact fr_small hd (hz y hy) hn
theorem RowB.mono {a b : Nat} {r : Row} (h : RowB a r) (l : a ≤ b) : RowB b r := by
  obtain ⟨d, z, hd, hn, hz, e⟩ := h
  exact ⟨d, z, hd, lt_mono hn l, fun x hx => lt_mono (hz x hx) l, e⟩
theorem fr_zero {d : Int} (hd : d ≠ 0) : fr 0 d = (0, 1) := fr_is hd ok01 (by show 0 * 1 = 0 * d; omega)
theorem z_getD {z : List Int} {d : Int} (hd : d ≠ 0) (c : Nat) : (z.map fun x => fr x d).getD c (0, 1) = fr (z.getD c 0) d := by
  by_cases h : c < z.length
  · exact map_getD h
  · rw [getD_out (by rw [List.length_map]; omega), getD_out (by omega), fr_zero hd]
theorem z_small {z : List Int} {n : Nat} (h : ∀ x ∈ z, x.natAbs < 2 ^ n) (c : Nat) : (z.getD c 0).natAbs < 2 ^ n := by
  by_cases hc : c < z.length
  · exact h _ (mem_getD hc)
  · rw [getD_out (by omega)]
    exact Nat.two_pow_pos n
theorem over_fr {x y d : Int} (hd : d ≠ 0) (hy : y ≠ 0) : mul (inv (fr y d)) (fr x d) = fr x y := by
  have hf : (fr y d).1 ≠ 0 := fun z => by
    have := fr_cross y d hd
    rw [z, Int.zero_mul] at this
    rcases Int.mul_eq_zero.mp this.symm with h | h
    · exact hy h
    · exact (fr_ok y d hd).ne h
  rw [← over_is (fr_ok x d hd) (fr_ok y d hd) hf]
  refine fr_eq (mulne (fr_ok x d hd).ne hf) hy ?_
  have h1 := fr_cross x d hd
  have h2 := fr_cross y d hd
  have : ((fr x d).1 * (fr y d).2 * y - x * ((fr x d).2 * (fr y d).1)) * d = 0 := by grind
  rcases Int.mul_eq_zero.mp this with h | h
  · omega
  · exact absurd h hd
theorem led_B {n c : Nat} {r : Row} (h : RowB n r) (h0 : (r.getD c (0, 1)).1 ≠ 0) : RowB n (timesRow (inv (r.getD c (0, 1))) r) := by
  obtain ⟨d, z, hd, hn, hz, rfl⟩ := h
  rw [z_getD hd] at h0 ⊢
  have hy : z.getD c 0 ≠ 0 := fun e => by
    rw [e, fr_zero hd] at h0
    exact h0 rfl
  refine ⟨z.getD c 0, z, hy, z_small hz c, hz, ?_⟩
  unfold timesRow
  rw [List.map_map]
  exact List.map_congr_left fun x _ => over_fr hd hy
theorem clear_fr {x y w d e : Int} (hd : d ≠ 0) (he : e ≠ 0) : add (fr x d) (mul (neg (fr y d)) (fr w e)) = fr (x * e - y * w) (d * e) := by
  have o1 := fr_ok x d hd
  have o2 := fr_ok y d hd
  have o3 := fr_ok w e he
  have om := mul_ok o2.neg o3
  refine fr_eq (mulne o1.ne om.ne) (mulne hd he) ?_
  have h1 := fr_cross x d hd
  have h2 := fr_cross y d hd
  have h3 := fr_cross w e he
  have h4 : (mul (neg (fr y d)) (fr w e)).1 * ((fr y d).2 * (fr w e).2) = -(fr y d).1 * (fr w e).1 * (mul (neg (fr y d)) (fr w e)).2 := fr_cross _ _ (mulne o2.neg.ne o3.ne)
  generalize fr x d = X at *
  generalize mul (neg (fr y d)) (fr w e) = M at *
  generalize fr y d = Y at *
  generalize fr w e = W at *
  have n2 := o2.ne
  have n3 := o3.ne
  -- M.1 * d * e = - y * w * M.2, times Y.2 * W.2
  have k1 : (M.1 * (d * e) + y * w * M.2) * (Y.2 * W.2) = 0 := by
    have a1 : M.1 * (Y.2 * W.2) * (d * e) = -(Y.1 * d) * (W.1 * e) * M.2 := by rw [h4]; grind
    rw [h2, h3] at a1
    grind
  have k2 : M.1 * (d * e) + y * w * M.2 = 0 := by
    rcases Int.mul_eq_zero.mp k1 with h | h
    · exact h
    · exact absurd h (mulne n2 n3)
  grind
theorem clear_B {a b c : Nat} {p r : Row} (hl : r.length = p.length) (hr : RowB a r) (hp : RowB b p) : RowB (a + b + 1) (clear c p r) := by
  obtain ⟨d, z, hd, hdn, hz, rfl⟩ := hr
  obtain ⟨e, y, he, hen, hy, rfl⟩ := hp
  rw [List.length_map, List.length_map] at hl
  refine ⟨d * e, List.zipWith (fun u v => u * e - z.getD c 0 * v) z y, mulne hd he, lt_mono (lt_mul hdn hen) (by omega), fun x hx => ?_, ?_⟩
  · obtain ⟨k, hk, rfl⟩ := List.mem_iff_getElem.mp hx
    rw [List.getElem_zipWith]
    exact lt_sub (lt_mul (hz _ (List.getElem_mem _)) hen) (lt_mul (z_small hz c) (hy _ (List.getElem_mem _)))
  · refine ext_getD (d := (0, 1)) ?_ fun k hk => ?_
    · rw [clear_len (by rw [List.length_map, List.length_map]; exact hl), List.length_map, List.length_map, List.length_zipWith]
      omega
    · have hk' : k < z.length := by
        rw [clear_len (by rw [List.length_map, List.length_map]; exact hl), List.length_map] at hk
        exact hk
      rw [clear_getD (by rw [List.length_map, List.length_map]; exact hl) (by rw [List.length_map]; exact hk'), z_getD hd, z_getD hd, z_getD he, clear_fr hd he, z_getD (mulne hd he)]
      rw [getD_of (l := List.zipWith _ _ _) (by rw [List.length_zipWith]; omega), List.getElem_zipWith, getD_of (l := z) hk', getD_of (l := y) (by omega)]
/-- how many bits behind so many rows that lead -/
def bits (n t : Nat) : Nat := (n + 1) * 2 ^ t - 1
theorem bits_succ (n t : Nat) : bits n (t + 1) = bits n t + bits n t + 1 := by
  unfold bits
  have h : 0 < (n + 1) * 2 ^ t := Nat.mul_pos (by omega) (Nat.two_pow_pos t)
  rw [Nat.pow_succ, ← Nat.mul_assoc]
  omega
theorem bits_mono (n : Nat) {a b : Nat} (h : a ≤ b) : bits n a ≤ bits n b := by
  unfold bits
  have := Nat.mul_le_mul_left (n + 1) (Nat.pow_le_pow_right (n := 2) (by decide) h)
  omega
structure BInv (n N : Nat) (s : List (Nat × Row) × List Row) : Prop where
  done : ∀ x ∈ s.1, RowB (bits n s.1.length) x.2
  rest : ∀ r ∈ s.2, RowB (bits n s.1.length) r
  all : s.1.length + s.2.length = N
theorem pStep_B {w c n N : Nat} {s : List (Nat × Row) × List Row} (I : PInv w c s) (B : BInv n N s) : BInv n N (pStep s c) := by
  unfold pStep
  split
  · exact B
  · rename_i i h
    obtain ⟨hi, hp, _⟩ := findIdx_some (d := []) h
    have hr := mem_getD (d := []) hi
    obtain ⟨gr, gz⟩ := I.rest _ hr
    have br := B.rest _ hr
    dsimp only
    generalize s.2.getD i [] = r at *
    have h0 : (r.getD c (0, 1)).1 ≠ 0 := fun z => by
      rw [zero_iff.mpr z] at hp
      exact absurd hp (by decide)
    have gp := led_good gr h0
    have bp := led_B br h0
    generalize timesRow (inv (r.getD c (0, 1))) r = p at *
    have el : (s.1.map (fun x => (x.1, clear c p x.2)) ++ [(c, p)]).length = s.1.length + 1 := by rw [List.length_append, List.length_map]; rfl
    refine ⟨fun x hx => ?_, fun q hq => ?_, ?_⟩
    · rw [el, bits_succ]
      rcases List.mem_append.mp hx with hx | hx
      · obtain ⟨y, hy, rfl⟩ := List.mem_map.mp hx
        exact clear_B (by rw [(I.done y hy).2.1.1, gp.1]) (B.done y hy) bp
      · obtain rfl := List.mem_singleton.mp hx
        exact bp.mono (by omega)
    · rw [el, bits_succ]
      obtain ⟨y, hy, rfl⟩ := List.mem_map.mp hq
      have hy' : y ∈ s.2 := by
        rcases List.mem_append.mp hy with h | h
        · exact List.mem_of_mem_take h
        · exact List.mem_of_mem_drop h
      exact clear_B (by rw [(I.rest y hy').1.1, gp.1]) (B.rest y hy') bp
    · rw [el, List.length_map, List.length_append, List.length_take, List.length_drop]
      have := B.all
      omega
theorem fold_B {w n : Nat} {rows : List Row} (hg : ∀ r ∈ rows, Good w r) (hb : ∀ r ∈ rows, RowB n r) : ∀ c, c ≤ w → BInv n rows.length ((List.range c).foldl pStep ([], rows))
  | 0, _ => ⟨fun x hx => absurd hx List.not_mem_nil, fun r hr => (hb r hr).mono (by show n ≤ (n + 1) * 2 ^ 0 - 1; omega), Nat.zero_add _⟩
  | c + 1, h => by
    rw [List.range_succ, List.foldl_append]
    exact pStep_B (fold_inv hg c (by omega)) (fold_B hg hb c (by omega))
theorem plain_B {w n : Nat} {rows : List Row} (hg : ∀ r ∈ rows, Good w r) (hb : ∀ r ∈ rows, RowB n r) : (∀ x ∈ plain w rows, RowB (bits n rows.length) x.2) ∧ (plain w rows).length ≤ rows.length := by
  have B := fold_B hg hb w (Nat.le_refl w)
  rw [plain_is]
  have h := B.all
  exact ⟨fun x hx => (B.done x hx).mono (bits_mono n (by omega)), by omega⟩
/-! ### what the mixtures bring -/
theorem brought_B {rules : List Rule} {n : Nat} (h : ∀ r ∈ rules, RuleOk n r) (s : Nat) : ∃ d : Int, d ≠ 0 ∧ d.natAbs < 2 ^ (10 * rules.length + 1) ∧ ∀ x : Mix, ∃ z : Int, z.natAbs < 2 ^ (11 * rules.length + 3) ∧ brought rules x s = fr z d := by
  have dl : ∀ (l : List Rule) (d0 : Int) (k : Nat), (∀ r ∈ l, RuleOk n r) → d0 ≠ 0 → d0.natAbs < 2 ^ (10 * k + 1) → ∃ d : Int, d ≠ 0 ∧ d.natAbs < 2 ^ (10 * (k + l.length) + 1) ∧
      ∀ (x : Mix) (z0 : Int), z0.natAbs < 2 ^ (11 * k + 3) → ∃ z : Int, z.natAbs < 2 ^ (11 * (k + l.length) + 3) ∧
        l.foldl (fun (t : Fr) (r : Rule) => if r.left = x then plusP t (timesP r.speed (delta r s, 1)) else t) (fr z0 d0) = fr z d := by
    intro l
    induction l with
    | nil => intro d0 k _ h0 hd; exact ⟨d0, h0, hd, fun x z0 hz => ⟨z0, hz, rfl⟩⟩
    | cons r l ih =>
      intro d0 k hr h0 hd
      have ho := hr r List.mem_cons_self
      have hs2 : r.speed.2 ≠ 0 := ho.ok.ne
      have hp2 := ho.ok.1
      have hlo := ho.lo
      have b2 : r.speed.2.natAbs < 2 ^ 10 := by have : (2 : Nat) ^ 10 = 1024 := by decide
                                                omega
      have b1 : r.speed.1.natAbs < 2 ^ 10 := by have : (2 : Nat) ^ 10 = 1024 := by decide
                                                omega
      have bd : (delta r s).natAbs < 2 ^ 2 := by
        have q : ∀ l : List Nat, (∀ x ∈ l, x ≤ 3) → l.getD s 0 ≤ 3 := fun l hl => by
          by_cases hc : s < l.length
          · exact hl _ (mem_getD hc)
          · rw [getD_out (by omega)]; omega
        have q1 := q _ ho.small.1
        have q2 := q _ ho.small.2
        unfold delta
        have : (2 : Nat) ^ 2 = 4 := by decide
        omega
      have b12 : (r.speed.1 * delta r s).natAbs < 2 ^ 12 := lt_mul b1 bd
      obtain ⟨d, hd0, hdn, hall⟩ := ih (d0 * r.speed.2) (k + 1) (fun q hq => hr q (List.mem_cons_of_mem _ hq)) (mulne h0 hs2) (lt_mono (lt_mul hd b2) (by omega))
      refine ⟨d, hd0, ?_, fun x z0 hz => ?_⟩
      · rw [List.length_cons, show k + (l.length + 1) = k + 1 + l.length by omega]
        exact hdn
      · rw [List.foldl_cons, List.length_cons, show k + (l.length + 1) = k + 1 + l.length by omega]
        by_cases e : r.left = x
        · rw [if_pos e]
          have es : plusP (fr z0 d0) (timesP r.speed (delta r s, 1)) = fr (z0 * r.speed.2 + r.speed.1 * delta r s * d0) (d0 * r.speed.2) := by
            have o1 := fr_ok z0 d0 h0
            have o2 := mul_ok ho.ok (okI (delta r s))
            rw [plus_is, times_is]
            refine fr_eq (mulne o1.ne o2.ne) (mulne h0 hs2) ?_
            have h1 := fr_cross z0 d0 h0
            have h2 : (mul r.speed (delta r s, 1)).1 * (r.speed.2 * 1) = r.speed.1 * delta r s * (mul r.speed (delta r s, 1)).2 := fr_cross _ _ (mulne hs2 (show (1 : Int) ≠ 0 by decide))
            generalize fr z0 d0 = X at *
            generalize mul r.speed (delta r s, 1) = M at *
            grind
          rw [es]
          refine hall x _ ?_
          have c1 := lt_mono (lt_mul hz b2) (show 11 * k + 3 + 10 ≤ 11 * k + 13 by omega)
          have c2 := lt_mono (lt_mul b12 hd) (show 12 + (10 * k + 1) ≤ 11 * k + 13 by omega)
          exact lt_mono (lt_add c1 c2) (by omega)
        · rw [if_neg e]
          have es : fr z0 d0 = fr (z0 * r.speed.2) (d0 * r.speed.2) := fr_eq h0 (mulne h0 hs2) (by grind)
          rw [es]
          exact hall x _ (lt_mono (lt_mul hz b2) (by omega))
  obtain ⟨d, a, b, c⟩ := dl rules 1 0 h (by decide) (by decide)
  rw [Nat.zero_add] at b
  refine ⟨d, a, b, fun x => ?_⟩
  obtain ⟨z, hz, e⟩ := c x 0 (by decide)
  exact ⟨z, by rw [Nat.zero_add] at hz; exact hz, by unfold brought; rw [← e]; rfl⟩
theorem rows_B {rules : List Rule} {n : Nat} (h : ∀ r ∈ rules, RuleOk n r) (h8 : rules.length ≤ 8) (k : Nat) : ∀ r ∈ broughtRows rules k, RowB 91 r := by
  intro r hr
  unfold broughtRows at hr
  obtain ⟨s, _, rfl⟩ := List.mem_map.mp hr
  obtain ⟨d, h0, hd, hz⟩ := brought_B h s
  have : ∀ l : List Mix, ∃ z : List Int, (∀ x ∈ z, x.natAbs < 2 ^ 91) ∧ (l.map fun x => brought rules x s) = z.map fun x => fr x d := by
    intro l
    induction l with
    | nil => exact ⟨[], fun x hx => absurd hx List.not_mem_nil, rfl⟩
    | cons x l ih =>
      obtain ⟨z, hz1, e⟩ := ih
      obtain ⟨y, hy, ey⟩ := hz x
      refine ⟨y :: z, fun v hv => ?_, ?_⟩
      · rcases List.mem_cons.mp hv with rfl | hv
        · exact lt_mono hy (by omega)
        · exact hz1 v hv
      · rw [List.map_cons, List.map_cons, e, ey]
  obtain ⟨z, hz1, e⟩ := this (mixturesTaken rules)
  exact ⟨d, z, h0, lt_mono hd (by omega), hz1, e⟩
theorem relations_B {m : Net} (h : NetOk m) : ∀ r ∈ relationsOf m.rules m.n, Good (mixturesTaken m.rules).length r ∧ RowB 1471 r := by
  intro r hr
  unfold relationsOf at hr
  have g := rows_good (speeds_ok h) m.n
  rw [among_is g] at hr
  obtain ⟨x, hx, rfl⟩ := List.mem_map.mp hr
  have e4 : (broughtRows m.rules m.n).length ≤ 4 := by
    unfold broughtRows
    rw [List.length_map, List.length_range]
    exact h.n.2
  exact ⟨((plain_inv g).1 x hx).2.1, ((plain_B g (rows_B h.each h.few m.n)).1 x hx).mono (Nat.le_trans (bits_mono 91 e4) (by decide))⟩
end Sl

/-! What the specification's step answers, call by call. -/
namespace Sl
open Kp340 Kp341 Kp342 Kp343
def okRule (n : Nat) (row : List Nat) : Bool := decide (row.length = 2 * n) && (row.all (fun x => decide (x ≤ 3)) && decide (row.take n ≠ row.drop n))
/-- the state behind a call on a begun object, and the numbers answered -/
def stepA (m : Net) (c : Kp343.Call) : Net × List Int := (((Kp343.step (some m) c).1).getD m, (Kp343.step (some m) c).2.num :: (Kp343.step (some m) c).2.nums)
theorem read_is (m : Net) (l : List Nat) : readRule m l = if okRule m.n l = true then some ⟨l.take m.n, l.drop m.n, (1, 1)⟩ else none := by
  unfold readRule okRule
  by_cases h : l.length = 2 * m.n ∧ (l.all fun x => decide (x ≤ COEF)) = true ∧ l.take m.n ≠ l.drop m.n
  · rw [if_pos h, if_pos]
    obtain ⟨a, b, c⟩ := h
    have b : (l.all fun x => decide (x ≤ 3)) = true := b
    rw [decide_eq_true a, b, decide_eq_true c]
    rfl
  · rw [if_neg h, if_neg]
    intro z
    rw [Bool.and_eq_true, Bool.and_eq_true] at z
    exact h ⟨of_decide_eq_true z.1, z.2.1, of_decide_eq_true z.2.2⟩
theorem stepA_rule_no {m : Net} {l : List Nat} (h : okRule m.n l = false) : stepA m (.rule l) = (m, [-22]) := by
  unfold stepA Kp343.step
  simp only [Kp343.under, Kp340.step, read_is, h]
  rfl
theorem stepA_rule_there {m : Net} {l : List Nat} (h : okRule m.n l = true) (h2 : (m.rules.any fun x => x.left == l.take m.n && x.right == l.drop m.n) = true) : stepA m (.rule l) = (m, [-17]) := by
  unfold stepA Kp343.step
  simp only [Kp343.under, Kp340.step, read_is, h, h2, if_true]
  rfl
theorem stepA_rule_many {m : Net} {l : List Nat} (h : okRule m.n l = true) (h2 : (m.rules.any fun x => x.left == l.take m.n && x.right == l.drop m.n) = false) (h3 : 8 ≤ m.rules.length) : stepA m (.rule l) = (m, [-28]) := by
  unfold stepA Kp343.step
  have h3' : RULES ≤ m.rules.length := h3
  simp only [Kp343.under, Kp340.step, read_is, h, h2, h3', if_true]
  rfl
theorem stepA_rule {m : Net} {l : List Nat} (h : okRule m.n l = true) (h2 : (m.rules.any fun x => x.left == l.take m.n && x.right == l.drop m.n) = false) (h3 : ¬ 8 ≤ m.rules.length) : stepA m (.rule l) = ({ m with rules := m.rules ++ [⟨l.take m.n, l.drop m.n, (1, 1)⟩] }, [(m.rules.length : Int)]) := by
  unfold stepA Kp343.step
  have h3' : ¬ RULES ≤ m.rules.length := h3
  simp only [Kp343.under, Kp340.step, read_is, h, h2, h3', if_true, if_false]
  rfl
theorem isRule_iff {m : Net} {j : Nat} : isRule m j = decide (j < m.rules.length) := rfl
theorem stepA_unrule_no {m : Net} {j : Nat} (h : m.rules.length ≤ j) : stepA m (.unrule j) = (m, [-2]) := by
  unfold stepA Kp343.step
  have : isRule m j = false := decide_eq_false (by omega)
  simp only [Kp343.under, Kp340.step, this, if_true]
  rfl
theorem stepA_unrule {m : Net} {j : Nat} (h : j < m.rules.length) : stepA m (.unrule j) = ({ m with rules := m.rules.take j ++ m.rules.drop (j + 1) }, [((m.rules.length - 1 : Nat) : Int)]) := by
  unfold stepA Kp343.step
  have : isRule m j = true := decide_eq_true h
  simp only [Kp343.under, Kp340.step, this]
  rfl
theorem stepA_ruleIs_no {m : Net} {j : Nat} (h : m.rules.length ≤ j) : stepA m (.ruleIs j) = (m, [-2]) := by
  unfold stepA Kp343.step
  have : isRule m j = false := decide_eq_false (by omega)
  simp only [Kp343.under, Kp340.step, this, if_true]
  rfl
theorem stepA_ruleIs {m : Net} {j : Nat} (h : j < m.rules.length) : stepA m (.ruleIs j) = (m, (m.n : Int) :: (((ruleAt m j).left ++ (ruleAt m j).right).map (fun (x : Nat) => (x : Int)) ++ [(ruleAt m j).speed.1, (ruleAt m j).speed.2])) := by
  unfold stepA Kp343.step
  have : isRule m j = true := decide_eq_true h
  simp only [Kp343.under, Kp340.step, this]
  rfl
theorem stepA_speed_no {m : Net} {j a b : Nat} (h : m.rules.length ≤ j) : stepA m (.speed j a b) = (m, [-2]) := by
  unfold stepA Kp343.step
  have : isRule m j = false := decide_eq_false (by omega)
  simp only [Kp343.under, Kp340.step, this, if_true]
  rfl
theorem stepA_speed_bad {m : Net} {j a b : Nat} (h : j < m.rules.length) (h2 : okSpeed a b = false) : stepA m (.speed j a b) = (m, [-22]) := by
  unfold stepA Kp343.step
  have : isRule m j = true := decide_eq_true h
  simp only [Kp343.under, Kp340.step, this, h2, if_true]
  rfl
theorem stepA_speed {m : Net} {j a b : Nat} (h : j < m.rules.length) (h2 : okSpeed a b = true) : stepA m (.speed j a b) = ({ m with rules := m.rules.set j { ruleAt m j with speed := fr (a : Nat) (b : Nat) } }, [0]) := by
  unfold stepA Kp343.step
  have : isRule m j = true := decide_eq_true h
  simp only [Kp343.under, Kp340.step, this, h2]
  rfl
theorem stepA_lefts (m : Net) : stepA m .lefts = (m, ((lefts m).length : Int) :: (lefts m).map fun (x : Nat) => (x : Int)) := rfl
theorem stepA_relations (m : Net) : stepA m .relations = (m, ((relations m).length : Int) :: (relations m).flatMap fun r => r.flatMap fun x => [x.1, x.2]) := rfl
theorem stepA_ratio_no {m : Net} {i j : Nat} (h : ¬ (i ∈ lefts m ∧ j ∈ lefts m)) : stepA m (.ratio i j) = (m, [-2]) := by
  unfold stepA Kp343.step
  have : (Kp343.lefts m).contains i = false ∨ (Kp343.lefts m).contains j = false := by
    rcases Decidable.em (i ∈ lefts m) with h1 | h1
    · right
      rw [Bool.eq_false_iff]
      exact fun z => h ⟨h1, List.contains_iff_mem.mp z⟩
    · left
      rw [Bool.eq_false_iff]
      exact fun z => h1 (List.contains_iff_mem.mp z)
  simp only [this, if_true]
  rfl
theorem stepA_ratio {m : Net} {i j : Nat} (hi : i ∈ lefts m) (hj : j ∈ lefts m) : stepA m (.ratio i j) = (m, match ratioAt m (spot m i) (spot m j) with
    | none => [-33]
    | some q => [0, q.1, q.2]) := by
  unfold stepA Kp343.step
  have : ¬ ((Kp343.lefts m).contains i = false ∨ (Kp343.lefts m).contains j = false) := by
    rw [List.contains_iff_mem.mpr hi, List.contains_iff_mem.mpr hj]
    decide
  simp only [this, if_false]
  cases ratioAt m (spot m i) (spot m j) <;> rfl
theorem stepA_level_no {m : Net} {s : Nat} (h : m.n ≤ s) : stepA m (.level s) = (m, [-2]) := by
  unfold stepA Kp343.step
  simp only [h, if_true]
  rfl
def levelAnsI (m : Net) (s : Nat) : List Int := match levelOf m s with
  | none => [-33]
  | some (e, q) => [(e : Int), q.1, q.2]
theorem levelAns_is (m : Net) (s : Nat) : (levelAns m s).num :: (levelAns m s).nums = levelAnsI m s := by
  unfold levelAns levelAnsI
  cases levelOf m s <;> rfl
theorem stepA_level {m : Net} {s : Nat} (h : s < m.n) : stepA m (.level s) = (m, levelAnsI m s) := by
  rw [← levelAns_is]
  unfold stepA Kp343.step
  have : ¬ m.n ≤ s := by omega
  simp only [this, if_false]
  rfl
/-! ### a good net stays one -/
theorem okSpeed_fr {a b : Nat} (h : okSpeed a b = true) : Ok (fr (a : Nat) (b : Nat)) ∧ 1 ≤ (fr (a : Nat) (b : Nat)).1 ∧ (fr (a : Nat) (b : Nat)).1 ≤ 1000 ∧ (fr (a : Nat) (b : Nat)).2 ≤ 1000 := by
  unfold okSpeed at h
  simp only [Bool.and_eq_true, decide_eq_true_eq] at h
  have hb : (b : Int) ≠ 0 := by omega
  obtain ⟨o, e⟩ := fr_spec (a : Int) (b : Int) hb
  obtain ⟨l1, l2⟩ := fr_le (a : Int) (b : Int) hb
  have o1 := o.1
  have hp : 0 < (fr (a : Nat) (b : Nat)).1 := by
    rcases Int.lt_or_le 0 (fr (a : Nat) (b : Nat)).1 with h' | h'
    · exact h'
    · have h1 : (fr (a : Nat) (b : Nat)).1 * (b : Int) ≤ 0 := Int.mul_nonpos_of_nonpos_of_nonneg h' (by omega)
      have h2 : 0 < (a : Int) * (fr (a : Nat) (b : Nat)).2 := Int.mul_pos (by omega) o1
      omega
  exact ⟨o, by omega, by omega, by omega⟩
theorem okRule_ok {n : Nat} {l : List Nat} (h : okRule n l = true) : RuleOk n ⟨l.take n, l.drop n, (1, 1)⟩ := by
  unfold okRule at h
  rw [Bool.and_eq_true, Bool.and_eq_true] at h
  have h1 := of_decide_eq_true h.1
  have h2 := List.all_eq_true.mp h.2.1
  have h3 := of_decide_eq_true h.2.2
  refine ⟨?_, ?_, ⟨fun x hx => ?_, fun x hx => ?_⟩, h3, ok11, (show (1 : Int) ≤ 1 ∧ (1 : Int) ≤ 1000 ∧ (1 : Int) ≤ 1000 by decide)⟩
  · show (l.take n).length = n
    rw [List.length_take]
    omega
  · show (l.drop n).length = n
    rw [List.length_drop]
    omega
  · exact of_decide_eq_true (h2 x (List.mem_of_mem_take hx))
  · exact of_decide_eq_true (h2 x (List.mem_of_mem_drop hx))
theorem ruleAt_mem {m : Net} {j : Nat} (h : j < m.rules.length) : ruleAt m j ∈ m.rules := mem_getD h
theorem speed_ok {m : Net} (h : NetOk m) {j a b : Nat} (hj : j < m.rules.length) (hs : okSpeed a b = true) : NetOk { m with rules := m.rules.set j { ruleAt m j with speed := fr (a : Nat) (b : Nat) } } := by
  refine ⟨h.n, by show (m.rules.set _ _).length ≤ 8; rw [List.length_set]; exact h.few, fun r hr => ?_⟩
  have hr : r ∈ m.rules.set j { ruleAt m j with speed := fr (a : Nat) (b : Nat) } := hr
  rcases List.mem_or_eq_of_mem_set hr with hr | rfl
  · exact h.each r hr
  · have o := h.each _ (ruleAt_mem hj)
    obtain ⟨s1, s2⟩ := okSpeed_fr hs
    exact ⟨o.left, o.right, o.small, o.ne, s1, s2⟩
theorem rule_ok {m : Net} (h : NetOk m) {l : List Nat} (hl : okRule m.n l = true) (h8 : ¬ 8 ≤ m.rules.length) : NetOk { m with rules := m.rules ++ [⟨l.take m.n, l.drop m.n, (1, 1)⟩] } := by
  refine ⟨h.n, by show (m.rules ++ [_]).length ≤ 8; rw [List.length_append]; show m.rules.length + 1 ≤ 8; omega, fun r hr => ?_⟩
  rcases List.mem_append.mp hr with hr | hr
  · exact h.each r hr
  · rw [List.mem_singleton.mp hr]
    exact okRule_ok hl
theorem unrule_ok {m : Net} (h : NetOk m) {j : Nat} (hj : j < m.rules.length) : NetOk { m with rules := m.rules.take j ++ m.rules.drop (j + 1) } := by
  refine ⟨h.n, ?_, fun r hr => ?_⟩
  · show (m.rules.take j ++ m.rules.drop (j + 1)).length ≤ 8
    rw [List.length_append, List.length_take, List.length_drop]
    have := h.few
    omega
  · rcases List.mem_append.mp hr with hr | hr
    · exact h.each r (List.mem_of_mem_take hr)
    · exact h.each r (List.mem_of_mem_drop hr)
theorem begin_ok {n : Nat} (h : ¬ (n < 1 ∨ 4 < n)) : NetOk ⟨n, []⟩ := ⟨by show 1 ≤ n ∧ n ≤ 4; omega, Nat.zero_le _, fun r hr => absurd hr List.not_mem_nil⟩
end Sl

/-! The calls in their list, as the specification reads them. -/
namespace Sl
open Kp340 Kp341 Kp342 Kp343
def numOf (c : Nat) : Nat := [1, 0, 1, 1, 3, 0, 0, 2, 1, 4, 0, 0, 0, 0, 1, 0, 0].getD c 0
def hasRow (c : Nat) : Bool := [1, 14, 15, 16].contains c
def rowC (c : Nat) (row : List Nat) : List Nat := if hasRow c = true then row.length :: row else []
/-- a call as it stands in the list -/
def flatC (c : Nat) (nums row : List Nat) : List Nat := c :: (nums ++ rowC c row)
/-- a list of calls, a place in it where one stands -/
structure CallAt (N : List Nat) (place c : Nat) (nums row : List Nat) : Prop where
  split : ∃ pre post, N = pre ++ (flatC c nums row ++ post) ∧ place = pre.length
  le : c ≤ 16
  nums : nums.length = numOf c
  few : N.length ≤ 800
def toI (l : List Nat) : List Int := l.map fun (k : Nat) => (k : Int)
def rawC (c : Nat) (nums row : List Nat) : List (List Int) := (toI (c :: nums)) :: if hasRow c = true then [toI row] else []
theorem shape_is {c : Nat} (h : c ≤ 16) : PyKp343.shape (c : Int) = some (numOf c, if hasRow c = true then 1 else 0) := by
  have : c = 0 ∨ c = 1 ∨ c = 2 ∨ c = 3 ∨ c = 4 ∨ c = 5 ∨ c = 6 ∨ c = 7 ∨ c = 8 ∨ c = 9 ∨ c = 10 ∨ c = 11 ∨ c = 12 ∨ c = 13 ∨ c = 14 ∨ c = 15 ∨ c = 16 := by omega
  rcases this with rfl | rfl | rfl | rfl | rfl | rfl | rfl | rfl | rfl | rfl | rfl | rfl | rfl | rfl | rfl | rfl | rfl <;> decide
theorem shape_none {c : Nat} (h : ¬ c ≤ 16) : PyKp343.shape (c : Int) = none := by
  unfold PyKp343.shape
  rw [if_neg (by omega), if_neg (by omega), if_neg (by omega), if_neg (by omega), if_neg (by omega), if_neg (by omega), if_neg (by omega), if_neg (by omega), if_neg (by omega), if_neg (by omega), if_neg (by omega), if_neg (by omega), if_neg (by omega), if_neg (by omega), if_neg (by omega), if_neg (by omega), if_neg (by omega)]
theorem row_is {l : List Nat} {x t : List Int} (h : PyFlat.row (toI l) = some (x, t)) : ∃ row post, l = row.length :: (row ++ post) ∧ x = toI row ∧ t = toI post := by
  cases l with
  | nil => cases h
  | cons n r =>
    have h : (if 0 ≤ (n : Int) ∧ ((n : Int)).toNat ≤ (toI r).length then some ((toI r).take ((n : Int)).toNat, (toI r).drop ((n : Int)).toNat) else none) = some (x, t) := h
    have hl : (toI r).length = r.length := List.length_map ..
    rw [Int.toNat_natCast, hl] at h
    by_cases hc : 0 ≤ (n : Int) ∧ n ≤ r.length
    · rw [if_pos hc] at h
      injection h with h
      injection h with h1 h2
      refine ⟨r.take n, r.drop n, ?_, ?_, ?_⟩
      · rw [List.length_take, Nat.min_eq_left hc.2, List.take_append_drop]
      · rw [← h1]
        unfold toI
        rw [List.map_take]
      · rw [← h2]
        unfold toI
        rw [List.map_drop]
    · rw [if_neg hc] at h
      cases h
theorem call_is {l : List Nat} {call : List (List Int)} {t : List Int} (h : PyFlat.call PyKp343.shape (toI l) = some (call, t)) : ∃ c nums row post, l = flatC c nums row ++ post ∧ c ≤ 16 ∧ nums.length = numOf c ∧ call = rawC c nums row ∧ t = toI post := by
  cases l with
  | nil => cases h
  | cons c r =>
    by_cases hc : c ≤ 16
    · have h : (match PyKp343.shape (c : Int) with
        | none => none
        | some (n, k) => if (toI r).length < n then none else match PyFlat.rows k ((toI r).drop n) with
          | none => none
          | some (xs, t) => some (((c : Int) :: (toI r).take n) :: xs, t)) = some (call, t) := h
      rw [shape_is hc] at h
      dsimp only at h
      have hl : (toI r).length = r.length := List.length_map ..
      rw [hl] at h
      by_cases hn : r.length < numOf c
      · rw [if_pos hn] at h
        cases h
      · rw [if_neg hn] at h
        have ed : (toI r).drop (numOf c) = toI (r.drop (numOf c)) := by unfold toI; rw [List.map_drop]
        have et : (toI r).take (numOf c) = toI (r.take (numOf c)) := by unfold toI; rw [List.map_take]
        rw [ed, et] at h
        have enum : (r.take (numOf c)).length = numOf c := by rw [List.length_take]; omega
        by_cases hr : hasRow c = true
        · rw [if_pos hr] at h
          cases hw : PyFlat.row (toI (r.drop (numOf c))) with
          | none =>
            have : PyFlat.rows 1 (toI (r.drop (numOf c))) = none := by
              show (match PyFlat.row (toI (r.drop (numOf c))) with
                | none => none
                | some (x, s) => match PyFlat.rows 0 s with
                  | none => none
                  | some (xs, t) => some (x :: xs, t)) = none
              rw [hw]
            rw [this] at h
            cases h
          | some xt =>
            obtain ⟨x, t'⟩ := xt
            have : PyFlat.rows 1 (toI (r.drop (numOf c))) = some ([x], t') := by
              show (match PyFlat.row (toI (r.drop (numOf c))) with
                | none => none
                | some (x, s) => match PyFlat.rows 0 s with
                  | none => none
                  | some (xs, t) => some (x :: xs, t)) = some ([x], t')
              rw [hw]
              rfl
            rw [this] at h
            injection h with h
            injection h with h1 h2
            obtain ⟨row, post, e1, e2, e3⟩ := row_is hw
            refine ⟨c, r.take (numOf c), row, post, ?_, hc, enum, ?_, ?_⟩
            · unfold flatC rowC
              rw [if_pos hr]
              show c :: r = c :: ((r.take (numOf c) ++ (row.length :: row)) ++ post)
              rw [List.append_assoc, List.cons_append, ← e1, List.take_append_drop]
            · rw [← h1, e2]
              unfold rawC
              rw [if_pos hr]
              rfl
            · rw [← h2, e3]
        · rw [if_neg hr] at h
          injection h with h
          injection h with h1 h2
          refine ⟨c, r.take (numOf c), [], r.drop (numOf c), ?_, hc, enum, ?_, h2.symm⟩
          · unfold flatC rowC
            rw [if_neg hr, List.append_nil]
            show c :: r = c :: (r.take (numOf c) ++ r.drop (numOf c))
            rw [List.take_append_drop]
          · rw [← h1]
            unfold rawC
            rw [if_neg hr]
            rfl
    · have h : (match PyKp343.shape (c : Int) with
        | none => none
        | some (n, k) => if (toI r).length < n then none else match PyFlat.rows k ((toI r).drop n) with
          | none => none
          | some (xs, t) => some (((c : Int) :: (toI r).take n) :: xs, t)) = some (call, t) := h
      rw [shape_none hc] at h
      cases h
/-- one call more -/
theorem calls_step {l : List Nat} {f : Nat} {cs : List (List (List Int))} (hl : l ≠ []) (h : PyFlat.calls PyKp343.shape f (toI l) = some cs) :
    ∃ c nums row post cs' f', l = flatC c nums row ++ post ∧ c ≤ 16 ∧ nums.length = numOf c ∧ cs = rawC c nums row :: cs' ∧ PyFlat.calls PyKp343.shape f' (toI post) = some cs' := by
  cases l with
  | nil => exact absurd rfl hl
  | cons p r =>
    cases f with
    | zero => cases h
    | succ f =>
      have h : (match PyFlat.call PyKp343.shape (toI (p :: r)) with
        | none => none
        | some (c, t) => match PyFlat.calls PyKp343.shape f t with
          | none => none
          | some cs => some (c :: cs)) = some cs := h
      cases hc : PyFlat.call PyKp343.shape (toI (p :: r)) with
      | none => rw [hc] at h; cases h
      | some ct =>
        obtain ⟨call, t⟩ := ct
        rw [hc] at h
        dsimp only at h
        cases hq : PyFlat.calls PyKp343.shape f t with
        | none => rw [hq] at h; cases h
        | some cs' =>
          rw [hq] at h
          injection h with h
          obtain ⟨c, nums, row, post, e1, e2, e3, e4, e5⟩ := call_is hc
          refine ⟨c, nums, row, post, cs', f, e1, e2, e3, ?_, ?_⟩
          · rw [← h, e4]
          · rw [← e5]
            exact hq
theorem calls_nil {f : Nat} {cs : List (List (List Int))} (h : PyFlat.calls PyKp343.shape f (toI []) = some cs) : cs = [] := by
  cases f with
  | zero => exact (Option.some.inj h).symm
  | succ f => exact (Option.some.inj h).symm
/-- what a call is answered, the state behind it -/
def ansOf (st : Option Net) (c : Nat) (nums row : List Nat) : Option Net × List Int := Kp343Neutral.step st (PyKp343.whole (rawC c nums row))
/-- what's told from a state on -/
def toldFrom (st : Option Net) (cs : List (List (List Int))) : List Int := PyFlat.told (PyFlat.played Kp343Neutral.step st (cs.map PyKp343.whole))
theorem told_cons (st : Option Net) (c : Nat) (nums row : List Nat) (cs : List (List (List Int))) : toldFrom st (rawC c nums row :: cs) = ((ansOf st c nums row).2.length : Int) :: ((ansOf st c nums row).2 ++ toldFrom (ansOf st c nums row).1 cs) := rfl
theorem told_nil (st : Option Net) : toldFrom st [] = [] := rfl
def net (st : Option Net) : Net := st.getD ⟨0, []⟩
def StOk (st : Option Net) : Prop := ∀ m, st = some m → NetOk m
theorem asked_calls {ns : List Int} (h : PyKp343.answers_asked ns = true) : ∃ cs, PyFlat.calls PyKp343.shape ns.length ns = some cs ∧ PyKp343.answers ns = toldFrom none cs ∧ (PyKp343.answers ns).length ≤ 10000000 := by
  unfold PyKp343.answers_asked at h
  cases hc : PyFlat.calls PyKp343.shape ns.length ns with
  | none => rw [hc] at h; cases h
  | some cs =>
    rw [hc] at h
    dsimp only at h
    simp only [Bool.and_eq_true] at h
    refine ⟨cs, rfl, ?_, ?_⟩
    · unfold PyKp343.answers PyKp343.calls
      rw [hc]
      rfl
    · have := h.2
      unfold PyFlat.short at this
      exact of_decide_eq_true this
end Sl

/-! The state behind each call: a good net stays one. -/
namespace Sl
open Kp340 Kp341 Kp342 Kp343
theorem stok_none : StOk none := fun m h => by cases h
theorem stok_some {m : Net} (h : NetOk m) : StOk (some m) := fun m' e => by cases e; exact h
theorem begin_st (st : Option Net) (n : Nat) : Kp343.step st (.begin_ n) = if n < 1 ∨ 4 < n then (st, Kp343.say (-22)) else (some ⟨n, []⟩, Kp343.say 0) := rfl
theorem step_none {x : Kp343.Call} (h : ∀ n, x ≠ .begin_ n) : Kp343.step none x = (none, Kp343.say (-11)) := by
  cases x <;> first | rfl | exact absurd rfl (h _)
/-- of a begun object a call leaves a begun one -/
theorem step_st (m : Net) {x : Kp343.Call} (h : ∀ n, x ≠ .begin_ n) : (Kp343.step (some m) x).1 = some (stepA m x).1 := by
  have key : ∃ m', (Kp343.step (some m) x).1 = some m' := by
    cases x with
    | begin_ n => exact absurd rfl (h n)
    | rule l =>
      by_cases h1 : okRule m.n l = true
      · by_cases h2 : (m.rules.any fun x => x.left == l.take m.n && x.right == l.drop m.n) = true
        · refine ⟨m, ?_⟩
          unfold Kp343.step
          simp only [Kp343.under, Kp340.step, read_is, h1, h2, if_true]
        · by_cases h3 : RULES ≤ m.rules.length
          · refine ⟨m, ?_⟩
            unfold Kp343.step
            simp only [Kp343.under, Kp340.step, read_is, h1, h2, h3, if_true]
            rfl
          · refine ⟨{ m with rules := m.rules ++ [⟨l.take m.n, l.drop m.n, (1, 1)⟩] }, ?_⟩
            unfold Kp343.step
            simp only [Kp343.under, Kp340.step, read_is, h1, h2, h3, if_true, if_false]
            rfl
      · refine ⟨m, ?_⟩
        unfold Kp343.step
        simp only [Kp343.under, Kp340.step, read_is, h1]
        rfl
    | unrule j =>
      by_cases h1 : isRule m j = false
      · exact ⟨m, by unfold Kp343.step; simp only [Kp343.under, Kp340.step, h1, if_true]⟩
      · exact ⟨_, by unfold Kp343.step; simp only [Kp343.under, Kp340.step, h1]; rfl⟩
    | speed j a b =>
      by_cases h1 : isRule m j = false
      · exact ⟨m, by unfold Kp343.step; simp only [Kp343.under, Kp340.step, h1, if_true]⟩
      · by_cases h2 : okSpeed a b = false
        · exact ⟨m, by unfold Kp343.step; simp only [Kp343.under, Kp340.step, h1, h2, if_true]; rfl⟩
        · exact ⟨_, by unfold Kp343.step; simp only [Kp343.under, Kp340.step, h1, h2]; rfl⟩
    | _ => exact ⟨m, rfl⟩
  obtain ⟨m', e⟩ := key
  unfold stepA
  rw [e]
  rfl
theorem stepA_ok {m : Net} (hm : NetOk m) {x : Kp343.Call} (h : ∀ n, x ≠ .begin_ n) : NetOk (stepA m x).1 := by
  cases x with
  | begin_ n => exact absurd rfl (h n)
  | rule l =>
    by_cases h1 : okRule m.n l = true
    · by_cases h2 : (m.rules.any fun x => x.left == l.take m.n && x.right == l.drop m.n) = true
      · rw [stepA_rule_there h1 h2]; exact hm
      · have h2 := Bool.eq_false_iff.mpr h2
        by_cases h3 : 8 ≤ m.rules.length
        · rw [stepA_rule_many h1 h2 h3]; exact hm
        · rw [stepA_rule h1 h2 h3]; exact rule_ok hm h1 h3
    · rw [stepA_rule_no (Bool.eq_false_iff.mpr h1)]; exact hm
  | unrule j =>
    by_cases h1 : j < m.rules.length
    · rw [stepA_unrule h1]; exact unrule_ok hm h1
    · rw [stepA_unrule_no (by omega)]; exact hm
  | speed j a b =>
    by_cases h1 : j < m.rules.length
    · by_cases h2 : okSpeed a b = true
      · rw [stepA_speed h1 h2]; exact speed_ok hm h1 h2
      · rw [stepA_speed_bad h1 (Bool.eq_false_iff.mpr h2)]; exact hm
    · rw [stepA_speed_no (by omega)]; exact hm
  | ruleIs j =>
    by_cases h1 : j < m.rules.length
    · rw [stepA_ruleIs h1]; exact hm
    · rw [stepA_ruleIs_no (by omega)]; exact hm
  | _ => exact hm
theorem step_ok {st : Option Net} (hs : StOk st) (x : Kp343.Call) : StOk (Kp343.step st x).1 := by
  by_cases hb : ∃ n, x = .begin_ n
  · obtain ⟨n, rfl⟩ := hb
    rw [begin_st]
    by_cases h : n < 1 ∨ 4 < n
    · rw [if_pos h]; exact hs
    · rw [if_neg h]; exact stok_some (begin_ok h)
  · have hb : ∀ n, x ≠ .begin_ n := fun n e => hb ⟨n, e⟩
    cases st with
    | none => rw [step_none hb]; exact stok_none
    | some m => rw [step_st m hb]; exact stok_some (stepA_ok (hs m rfl) hb)
theorem ans_ok {st : Option Net} (hs : StOk st) (c : Nat) (nums row : List Nat) : StOk (ansOf st c nums row).1 := by
  unfold ansOf Kp343Neutral.step
  cases Kp343Neutral.callOf (PyKp343.whole (rawC c nums row)) with
  | none => exact hs
  | some x => exact step_ok hs x
/-- a call by its number: what the specification reads -/
theorem ans_call {st : Option Net} {c : Nat} {nums row : List Nat} {x : Kp343.Call} (h : Kp343Neutral.callOf (PyKp343.whole (rawC c nums row)) = some x) : ansOf st c nums row = ((Kp343.step st x).1, (Kp343.step st x).2.num :: (Kp343.step st x).2.nums) := by
  unfold ansOf Kp343Neutral.step
  rw [h]
theorem ans_begun {m : Net} {c : Nat} {nums row : List Nat} {x : Kp343.Call} (h : Kp343Neutral.callOf (PyKp343.whole (rawC c nums row)) = some x) (hb : ∀ n, x ≠ .begin_ n) : ansOf (some m) c nums row = (some (stepA m x).1, (stepA m x).2) := by
  rw [ans_call h, step_st m hb]
  rfl
theorem ans_none {c : Nat} {nums row : List Nat} {x : Kp343.Call} (h : Kp343Neutral.callOf (PyKp343.whole (rawC c nums row)) = some x) (hb : ∀ n, x ≠ .begin_ n) : ansOf none c nums row = (none, [-11]) := by
  rw [ans_call h, step_none hb]
  rfl
/-! the calls, one by one -/
theorem toI_nat (l : List Nat) : (toI l).map Int.toNat = l := by
  unfold toI
  rw [List.map_map]
  conv => rhs; rw [← List.map_id l]
  exact List.map_congr_left fun x _ => rfl
theorem read0 (n : Nat) (row : List Nat) : Kp343Neutral.callOf (PyKp343.whole (rawC 0 [n] row)) = some (.begin_ n) := rfl
theorem read1 (row : List Nat) : Kp343Neutral.callOf (PyKp343.whole (rawC 1 [] row)) = some (.rule row) := by
  show some (Kp343.Call.rule ((toI row).map Int.toNat)) = _
  rw [toI_nat]
theorem read2 (j : Nat) (row : List Nat) : Kp343Neutral.callOf (PyKp343.whole (rawC 2 [j] row)) = some (.unrule j) := rfl
theorem read3 (j : Nat) (row : List Nat) : Kp343Neutral.callOf (PyKp343.whole (rawC 3 [j] row)) = some (.ruleIs j) := rfl
theorem read4 (j a b : Nat) (row : List Nat) : Kp343Neutral.callOf (PyKp343.whole (rawC 4 [j, a, b] row)) = some (.speed j a b) := rfl
theorem read5 (row : List Nat) : Kp343Neutral.callOf (PyKp343.whole (rawC 5 [] row)) = some .lefts := rfl
theorem read6 (row : List Nat) : Kp343Neutral.callOf (PyKp343.whole (rawC 6 [] row)) = some .relations := rfl
theorem read7 (i j : Nat) (row : List Nat) : Kp343Neutral.callOf (PyKp343.whole (rawC 7 [i, j] row)) = some (.ratio i j) := rfl
theorem read8 (s : Nat) (row : List Nat) : Kp343Neutral.callOf (PyKp343.whole (rawC 8 [s] row)) = some (.level s) := rfl
theorem read9 (j a b s : Nat) (row : List Nat) : Kp343Neutral.callOf (PyKp343.whole (rawC 9 [j, a, b, s] row)) = some (.ifSpeed j a b s) := rfl
theorem read10 (row : List Nat) : Kp343Neutral.callOf (PyKp343.whole (rawC 10 [] row)) = some .pairs := rfl
theorem read11 (row : List Nat) : Kp343Neutral.callOf (PyKp343.whole (rawC 11 [] row)) = some .same := rfl
theorem read12 (row : List Nat) : Kp343Neutral.callOf (PyKp343.whole (rawC 12 [] row)) = some .ends := rfl
theorem read13 (row : List Nat) : Kp343Neutral.callOf (PyKp343.whole (rawC 13 [] row)) = some .hides := rfl
theorem read14 (i : Nat) (row : List Nat) : Kp343Neutral.callOf (PyKp343.whole (rawC 14 [i] row)) = some (.weight i row) := by
  show some (Kp343.Call.weight i ((toI row).map Int.toNat)) = _
  rw [toI_nat]
theorem read15 (row : List Nat) : Kp343Neutral.callOf (PyKp343.whole (rawC 15 [] row)) = some (.steady row) := by
  show some (Kp343.Call.steady ((toI row).map Int.toNat)) = _
  rw [toI_nat]
theorem read16 (row : List Nat) : Kp343Neutral.callOf (PyKp343.whole (rawC 16 [] row)) = some (.met row) := by
  show some (Kp343.Call.met ((toI row).map Int.toNat)) = _
  rw [toI_nat]
end Sl

/-! What's come to by arrows: the specification's rounds are the paths. -/
namespace Sl
open Kp340 Kp341 Kp342 Kp343
inductive Path (a : List (Nat × Nat)) : Nat → Nat → Prop
  | refl (i : Nat) : Path a i i
  | step {i j k : Nat} : Path a i j → (j, k) ∈ a → Path a i k
theorem Path.trans {a : List (Nat × Nat)} {i j k : Nat} (p : Path a i j) (q : Path a j k) : Path a i k := by
  induction q with
  | refl => exact p
  | step _ h ih => exact .step ih h
theorem Path.one {a : List (Nat × Nat)} {i j : Nat} (h : (i, j) ∈ a) : Path a i j := .step (.refl i) h
theorem Path.mono {a b : List (Nat × Nat)} (h : ∀ x ∈ a, x ∈ b) {i j : Nat} (p : Path a i j) : Path b i j := by
  induction p with
  | refl => exact .refl _
  | step _ h2 ih => exact .step ih (h _ h2)
def rstep (l : List Nat) (x : Nat × Nat) : List Nat := if l.contains x.1 && !l.contains x.2 then l ++ [x.2] else l
theorem round_is (a : List (Nat × Nat)) (l : List Nat) : Kp340.round a l = a.foldl rstep l := rfl
def Closed (a : List (Nat × Nat)) (l : List Nat) : Prop := ∀ x ∈ a, x.1 ∈ l → x.2 ∈ l
theorem rstep_sub {l : List Nat} {x : Nat × Nat} {y : Nat} (h : y ∈ l) : y ∈ rstep l x := by
  unfold rstep
  split
  · exact List.mem_append_left _ h
  · exact h
theorem rstep_len (l : List Nat) (x : Nat × Nat) : l.length ≤ (rstep l x).length := by
  unfold rstep
  split
  · rw [List.length_append]; omega
  · exact Nat.le_refl _
theorem fold_sub : ∀ {a : List (Nat × Nat)} {l : List Nat} {y : Nat}, y ∈ l → y ∈ a.foldl rstep l
  | [], _, _, h => h
  | x :: a, l, y, h => fold_sub (a := a) (l := rstep l x) (rstep_sub h)
theorem fold_rlen : ∀ (a : List (Nat × Nat)) (l : List Nat), l.length ≤ (a.foldl rstep l).length
  | [], _ => Nat.le_refl _
  | x :: a, l => Nat.le_trans (rstep_len l x) (fold_rlen a (rstep l x))
/-- of no more than there was nothing was added, and all is closed -/
theorem fold_same : ∀ {a : List (Nat × Nat)} {l : List Nat}, (a.foldl rstep l).length ≤ l.length → Closed a l ∧ a.foldl rstep l = l
  | [], l, _ => ⟨fun x hx => absurd hx List.not_mem_nil, rfl⟩
  | x :: a, l, h => by
    have h1 := fold_rlen a (rstep l x)
    have h2 : (a.foldl rstep (rstep l x)).length ≤ l.length := h
    have h3 := rstep_len l x
    have e : rstep l x = l ∧ (x.1 ∈ l → x.2 ∈ l) := by
      unfold rstep at h1 h2 ⊢
      by_cases hc : (l.contains x.1 && !l.contains x.2) = true
      · rw [if_pos hc] at h1 h2
        rw [List.length_append] at h1
        have : ([x.2] : List Nat).length = 1 := rfl
        omega
      · rw [if_neg hc]
        refine ⟨rfl, fun hx => ?_⟩
        rcases Decidable.em (x.2 ∈ l) with z | z
        · exact z
        · refine absurd ?_ hc
          rw [List.contains_iff_mem.mpr hx]
          simpa using z
    obtain ⟨e1, e2⟩ := e
    have ih := fold_same (a := a) (l := l) (by rw [e1] at h2; exact h2)
    refine ⟨fun y hy => ?_, ?_⟩
    · rcases List.mem_cons.mp hy with rfl | hy
      · exact e2
      · exact ih.1 y hy
    · show a.foldl rstep (rstep l x) = l
      rw [e1]
      exact ih.2
theorem closed_same : ∀ {a : List (Nat × Nat)} {l : List Nat}, Closed a l → a.foldl rstep l = l
  | [], _, _ => rfl
  | x :: a, l, h => by
    have e : rstep l x = l := by
      unfold rstep
      by_cases h1 : x.1 ∈ l
      · have h2 := h x List.mem_cons_self h1
        rw [List.contains_iff_mem.mpr h2]
        simp
      · have : l.contains x.1 = false := by
          rw [Bool.eq_false_iff]
          exact fun z => h1 (List.contains_iff_mem.mp z)
        rw [this]
        rfl
    show a.foldl rstep (rstep l x) = l
    rw [e]
    exact closed_same fun y hy => h y (List.mem_cons_of_mem _ hy)
theorem fold_nd : ∀ {a : List (Nat × Nat)} {l : List Nat}, l.Nodup → (a.foldl rstep l).Nodup
  | [], _, h => h
  | x :: a, l, h => fold_nd (a := a) (by
      unfold rstep
      split
      · rename_i hc
        rw [Bool.and_eq_true] at hc
        have hn : x.2 ∉ l := fun z => by
          rw [List.contains_iff_mem.mpr z] at hc
          exact absurd hc.2 (by decide)
        refine List.nodup_append.mpr ⟨h, List.pairwise_singleton _ _, fun u hu v hv => ?_⟩
        rw [List.mem_singleton.mp hv]
        intro e
        exact hn (e ▸ hu)
      · exact h)
theorem fold_all {p : Nat → Prop} : ∀ {a : List (Nat × Nat)} {l : List Nat}, (∀ x ∈ a, p x.1 → p x.2) → (∀ y ∈ l, p y) → ∀ y ∈ a.foldl rstep l, p y
  | [], _, _, h => h
  | x :: a, l, ha, h => fold_all (a := a) (fun y hy => ha y (List.mem_cons_of_mem _ hy)) (by
      unfold rstep
      split
      · rename_i hc
        rw [Bool.and_eq_true] at hc
        intro y hy
        rcases List.mem_append.mp hy with hy | hy
        · exact h y hy
        · rw [List.mem_singleton.mp hy]
          exact ha x List.mem_cons_self (h _ (List.contains_iff_mem.mp hc.1))
      · exact h)
theorem nodup_lt : ∀ {k : Nat} {l : List Nat}, l.Nodup → (∀ y ∈ l, y < k) → l.length ≤ k := by
  intro k l nd h
  have hs : ∀ (m : List Nat), m.Nodup → ∀ (n : List Nat), (∀ y ∈ m, y ∈ n) → m.length ≤ n.length := by
    intro m
    induction m with
    | nil => intro _ n _; exact Nat.zero_le _
    | cons x m ih =>
      intro nd n hn
      have hx := hn x List.mem_cons_self
      have nd' := List.pairwise_cons.mp nd
      have := ih nd'.2 (n.erase x) fun y hy => by
        have hne : y ≠ x := fun e => nd'.1 y hy e.symm
        exact (List.mem_erase_of_ne hne).mpr (hn y (List.mem_cons_of_mem _ hy))
      rw [List.length_erase_of_mem hx] at this
      have hp : 0 < n.length := List.length_pos_of_mem hx
      rw [List.length_cons]
      omega
  have := hs l nd (List.range k) fun y hy => List.mem_range.mpr (h y hy)
  rw [List.length_range] at this
  exact this
theorem reach_succ (a : List (Nat × Nat)) (k i : Nat) : reach a (k + 1) i = (reach a k i).foldl (fun l x => l) (reach a (k + 1) i) := by
  induction reach a k i with
  | nil => rfl
  | cons x l ih => exact ih
def reachT (a : List (Nat × Nat)) (i : Nat) : Nat → List Nat
  | 0 => [i]
  | t + 1 => a.foldl rstep (reachT a i t)
theorem reachT_is (a : List (Nat × Nat)) (i : Nat) : ∀ t, reach a t i = reachT a i t
  | 0 => rfl
  | t + 1 => by
    unfold reach
    rw [List.range_succ, List.foldl_append]
    show Kp340.round a (reach a t i) = a.foldl rstep (reachT a i t)
    rw [reachT_is a i t]
    rfl
theorem reachT_nd (a : List (Nat × Nat)) (i : Nat) : ∀ t, (reachT a i t).Nodup
  | 0 => List.pairwise_singleton _ _
  | t + 1 => fold_nd (reachT_nd a i t)
theorem reachT_mem (a : List (Nat × Nat)) (i : Nat) : ∀ t, i ∈ reachT a i t
  | 0 => List.mem_singleton.mpr rfl
  | t + 1 => fold_sub (reachT_mem a i t)
theorem reachT_all {p : Nat → Prop} (a : List (Nat × Nat)) {i : Nat} (ha : ∀ x ∈ a, p x.1 → p x.2) (hi : p i) : ∀ t, ∀ y ∈ reachT a i t, p y
  | 0 => fun y hy => by rw [List.mem_singleton.mp hy]; exact hi
  | t + 1 => fold_all ha (reachT_all a ha hi t)
theorem reachT_grow (a : List (Nat × Nat)) (i : Nat) : ∀ t, Closed a (reachT a i t) ∨ t + 1 ≤ (reachT a i t).length
  | 0 => .inr (Nat.le_refl _)
  | t + 1 => by
    rcases reachT_grow a i t with h | h
    · left
      show Closed a (a.foldl rstep (reachT a i t))
      rw [closed_same h]
      exact h
    · by_cases hc : (a.foldl rstep (reachT a i t)).length ≤ (reachT a i t).length
      · obtain ⟨h1, h2⟩ := fold_same hc
        left
        show Closed a (a.foldl rstep (reachT a i t))
        rw [h2]
        exact h1
      · right
        show t + 1 + 1 ≤ (a.foldl rstep (reachT a i t)).length
        omega
/-- the rounds find just what there's a path to -/
theorem reach_iff {a : List (Nat × Nat)} {k i j : Nat} (ha : ∀ x ∈ a, x.2 < k) (hi : i < k) : (reach a k i).contains j = true ↔ Path a i j := by
  rw [reachT_is, List.contains_iff_mem]
  constructor
  · exact reachT_all (p := fun y => Path a i y) a (fun x hx hp => .step hp hx) (.refl i) k j
  · intro p
    have hc : Closed a (reachT a i k) := by
      rcases reachT_grow a i k with h | h
      · exact h
      · have := nodup_lt (reachT_nd a i k) (reachT_all (p := fun y => y < k) a (fun x hx _ => ha x hx) hi k)
        omega
    induction p with
    | refl => exact reachT_mem a i k
    | step _ h ih => exact hc _ h ih
theorem place_lt {m : Net} {x : Mix} (h : x ∈ mixtures m) : placeOf m x < (mixtures m).length := (idx_mem h).1
theorem arrows_lt (m : Net) : ∀ x ∈ arrows m, x.1 < (mixtures m).length ∧ x.2 < (mixtures m).length := by
  intro x hx
  unfold arrows at hx
  obtain ⟨r, hr, rfl⟩ := List.mem_map.mp hx
  exact ⟨place_lt (mem_mix.mpr ⟨r, hr, .inl rfl⟩), place_lt (mem_mix.mpr ⟨r, hr, .inr rfl⟩)⟩
theorem both_lt (m : Net) : ∀ x ∈ both m, x.1 < (mixtures m).length ∧ x.2 < (mixtures m).length := by
  intro x hx
  unfold both at hx
  rcases List.mem_append.mp hx with hx | hx
  · exact arrows_lt m x hx
  · obtain ⟨y, hy, rfl⟩ := List.mem_map.mp hx
    obtain ⟨h1, h2⟩ := arrows_lt m y hy
    exact ⟨h2, h1⟩
theorem comes_iff {m : Net} {i j : Nat} (hi : i < (mixtures m).length) : comesTo m i j = true ↔ Path (arrows m) i j := reach_iff (fun x hx => (arrows_lt m x hx).2) hi
theorem joined_iff {m : Net} {i j : Nat} (hi : i < (mixtures m).length) : joined m i j = true ↔ Path (both m) i j := reach_iff (fun x hx => (both_lt m x hx).2) hi
theorem both_sym {m : Net} {i j : Nat} (h : (i, j) ∈ both m) : (j, i) ∈ both m := by
  unfold both at h ⊢
  rcases List.mem_append.mp h with h | h
  · exact List.mem_append_right _ (List.mem_map.mpr ⟨(i, j), h, rfl⟩)
  · obtain ⟨y, hy, e⟩ := List.mem_map.mp h
    obtain ⟨y1, y2⟩ := y
    injection e with e1 e2
    subst e1 e2
    exact List.mem_append_left _ hy
theorem Path.sym {m : Net} {i j : Nat} (p : Path (both m) i j) : Path (both m) j i := by
  induction p with
  | refl => exact .refl _
  | step _ h ih => exact (Path.one (both_sym h)).trans ih
theorem path_lt {a : List (Nat × Nat)} {k i j : Nat} (ha : ∀ x ∈ a, x.2 < k) (hi : i < k) (p : Path a i j) : j < k := by
  induction p with
  | refl => exact hi
  | step _ h _ => exact ha _ h
end Sl

/-! Small numbers: a basis that is dual to columns, of a span of few rows of small whole numbers. -/
namespace Sl
open Kp340 Kp341 Kp342 Kp343
abbrev Vec := Nat → Rat
inductive Span (G : Vec → Prop) : Vec → Prop
  | zero : Span G fun _ => 0
  | gen {v : Vec} : G v → Span G v
  | add {u v : Vec} : Span G u → Span G v → Span G fun k => u k + v k
  | mul {v : Vec} (q : Rat) : Span G v → Span G fun k => q * v k
def sumR {α : Type} : List α → (α → Rat) → Rat
  | [], _ => 0
  | x :: l, f => f x + sumR l f
theorem sumR_add {α : Type} (l : List α) (f g : α → Rat) : sumR l (fun x => f x + g x) = sumR l f + sumR l g := by
  induction l with
  | nil => simp only [sumR]; grind
  | cons x l ih => simp only [sumR, ih]; grind
theorem sumR_mul {α : Type} (l : List α) (q : Rat) (f : α → Rat) : sumR l (fun x => q * f x) = q * sumR l f := by
  induction l with
  | nil => simp [sumR]
  | cons x l ih => simp only [sumR, ih]; grind
theorem sumR_congr {α : Type} {l : List α} {f g : α → Rat} (h : ∀ x ∈ l, f x = g x) : sumR l f = sumR l g := by
  induction l with
  | nil => rfl
  | cons x l ih => simp only [sumR]; rw [h x List.mem_cons_self, ih fun y hy => h y (List.mem_cons_of_mem _ hy)]
theorem sumR_zero {α : Type} {l : List α} {f : α → Rat} (h : ∀ x ∈ l, f x = 0) : sumR l f = 0 := by
  induction l with
  | nil => rfl
  | cons x l ih => simp only [sumR]; rw [h x List.mem_cons_self, ih fun y hy => h y (List.mem_cons_of_mem _ hy)]; grind
theorem sumR_app {α : Type} (l m : List α) (f : α → Rat) : sumR (l ++ m) f = sumR l f + sumR m f := by
  induction l with
  | nil => simp only [List.nil_append, sumR]; grind
  | cons x l ih => simp only [List.cons_append, sumR, ih]; grind
theorem sumR_map {α β : Type} (l : List α) (g : α → β) (f : β → Rat) : sumR (l.map g) f = sumR l fun x => f (g x) := by
  induction l with
  | nil => rfl
  | cons x l ih => simp only [List.map_cons, sumR, ih]
theorem Span.sub {G : Vec → Prop} {u v : Vec} (hu : Span G u) (hv : Span G v) : Span G fun k => u k - v k := by
  have h := hu.add (hv.mul (-1))
  have e : (fun k => u k + -1 * v k) = fun k => u k - v k := funext fun k => by grind
  rwa [e] at h
theorem Span.sum {G : Vec → Prop} {α : Type} {f : α → Vec} : ∀ {l : List α}, (∀ x ∈ l, Span G (f x)) → Span G fun k => sumR l fun x => f x k
  | [], _ => .zero
  | x :: l, h => (h x List.mem_cons_self).add (Span.sum (l := l) fun y hy => h y (List.mem_cons_of_mem _ hy))
theorem Span.congr {G : Vec → Prop} {u v : Vec} (h : Span G u) (e : ∀ k, u k = v k) : Span G v := by
  have : u = v := funext e
  rwa [this] at h
theorem Span.mono {G G' : Vec → Prop} (h : ∀ v, G v → Span G' v) {v : Vec} (s : Span G v) : Span G' v := by
  induction s with
  | zero => exact .zero
  | gen g => exact h _ g
  | add _ _ a b => exact a.add b
  | mul q _ a => exact a.mul q
/-- a map that keeps sums and multiples -/
structure Lin (F : Vec → Vec) : Prop where
  zero : ∀ k, F (fun _ => 0) k = 0
  add : ∀ u v k, F (fun k => u k + v k) k = F u k + F v k
  mul : ∀ q v k, F (fun k => q * v k) k = q * F v k
theorem Span.map {G G' : Vec → Prop} {F : Vec → Vec} (L : Lin F) (h : ∀ v, G v → Span G' (F v)) {v : Vec} (s : Span G v) : Span G' (F v) := by
  induction s with
  | zero => exact Span.congr .zero fun k => (L.zero k).symm
  | gen g => exact h _ g
  | add _ _ a b => exact (a.add b).congr fun k => (L.add _ _ k).symm
  | mul q _ a => exact (a.mul q).congr fun k => (L.mul q _ k).symm
theorem Span.eq {G : Vec → Prop} {F : Vec → Vec} (L : Lin F) (h : ∀ v, G v → ∀ k, F v k = v k) {v : Vec} (s : Span G v) : ∀ k, F v k = v k := by
  induction s with
  | zero => exact L.zero
  | gen g => exact h _ g
  | add _ _ a b => intro k; rw [L.add, a, b]
  | mul q _ a => intro k; rw [L.mul, a]
theorem Span.at {G : Vec → Prop} {c : Nat} (h : ∀ v, G v → v c = 0) {v : Vec} (s : Span G v) : v c = 0 := by
  induction s with
  | zero => rfl
  | gen g => exact h _ g
  | add _ _ a b => show _ + _ = _; rw [a, b]; grind
  | mul q _ a => show q * _ = 0; rw [a]; grind
abbrev DualL := List (Nat × Vec)
/-- made of the dual rows by what stands at their columns -/
def expand (ds : DualL) (v : Vec) : Vec := fun k => sumR ds fun x => v x.1 * x.2 k
theorem expand_lin (ds : DualL) : Lin (expand ds) where
  zero k := by
    show sumR ds (fun x => 0 * x.2 k) = 0
    exact sumR_zero fun x _ => by grind
  add u v k := by
    show sumR ds (fun x => (u x.1 + v x.1) * x.2 k) = sumR ds (fun x => u x.1 * x.2 k) + sumR ds (fun x => v x.1 * x.2 k)
    rw [← sumR_add]
    exact sumR_congr fun x _ => by grind
  mul q v k := by
    show sumR ds (fun x => (q * v x.1) * x.2 k) = q * sumR ds (fun x => v x.1 * x.2 k)
    rw [← sumR_mul]
    exact sumR_congr fun x _ => by grind
structure Dual (G : Vec → Prop) (ds : DualL) : Prop where
  nd : (ds.map (·.1)).Nodup
  dlt : ∀ x ∈ ds, ∀ y ∈ ds, x.2 y.1 = if x.1 = y.1 then 1 else 0
  mem : ∀ x ∈ ds, Span G x.2
  all : ∀ v, G v → ∀ k, expand ds v k = v k
theorem Dual.every {G : Vec → Prop} {ds : DualL} (D : Dual G ds) {v : Vec} (s : Span G v) : ∀ k, expand ds v k = v k := s.eq (expand_lin ds) D.all
def cast (w : Nat → Int) : Vec := fun k => (w k : Rat)
def fB : Nat → Nat → Nat
  | 0, _ => 1
  | q + 1, n => n + fB q (2 * n + 1) + 5
theorem sum_bound {α : Type} {a : Nat} : ∀ {l : List α} {f : α → Int}, (∀ x ∈ l, (f x).natAbs < 2 ^ a) → ∃ z : Int, z.natAbs ≤ l.length * 2 ^ a ∧ sumR l (fun x => (f x : Rat)) = (z : Rat)
  | [], f, _ => ⟨0, by simp, by simp [sumR]⟩
  | x :: l, f, h => by
    obtain ⟨z, hz, e⟩ := sum_bound (l := l) (f := f) fun y hy => h y (List.mem_cons_of_mem _ hy)
    have hx := h x List.mem_cons_self
    refine ⟨f x + z, ?_, ?_⟩
    · rw [List.length_cons, Nat.succ_mul]
      omega
    · simp only [sumR]
      rw [e]
      simp [Rat.intCast_add]
theorem pow_ge {a b : Nat} (h : a ≤ b) : 2 ^ a ≤ 2 ^ b := Nat.pow_le_pow_right (by decide) h
theorem dual_small : ∀ (q n : Nat) (ws : List (Nat → Int)) (ds : DualL), ws.length ≤ q → ds.length ≤ 16 → (∀ w ∈ ws, ∀ k, (w k).natAbs < 2 ^ n) → Dual (fun v => ∃ w ∈ ws, v = cast w) ds →
    ∃ d : Int, d ≠ 0 ∧ d.natAbs < 2 ^ fB q n ∧ ∀ x ∈ ds, ∀ k, ∃ z : Int, z.natAbs < 2 ^ fB q n ∧ x.2 k * (d : Rat) = (z : Rat) := by
  intro q
  induction q with
  | zero =>
    intro n ws ds hq hl hw D
    refine ⟨1, by decide, (by show 1 < 2 ^ 1; decide), fun x hx k => ?_⟩
    have : ws = [] := List.length_eq_zero_iff.mp (by omega)
    subst this
    have h := (D.mem x hx).at (c := x.1) fun v ⟨w, hw, _⟩ => absurd hw List.not_mem_nil
    have h2 := D.dlt x hx x hx
    rw [if_pos rfl, h] at h2
    exact absurd h2 (by decide)
  | succ q ih =>
    intro n ws ds hq hl hw D
    cases ds with
    | nil => exact ⟨1, by decide, by have := pow_ge (show 1 ≤ fB (q + 1) n by show 1 ≤ n + fB q (2 * n + 1) + 5; omega); show 1 < _; omega, fun x hx => absurd hx List.not_mem_nil⟩
    | cons x0 ds =>
      obtain ⟨c, D0⟩ := x0
      -- a row with something there
      have hex : ∃ p ∈ ws, p c ≠ 0 := by
        refine Classical.byContradiction fun hn => ?_
        have h := (D.mem (c, D0) List.mem_cons_self).at (c := c) fun v ⟨w, hw, e⟩ => by
          rw [e]
          have : w c = 0 := Classical.byContradiction fun z => hn ⟨w, hw, z⟩
          show ((w c : Int) : Rat) = 0
          rw [this]
          rfl
        have h2 := D.dlt (c, D0) List.mem_cons_self (c, D0) List.mem_cons_self
        rw [if_pos rfl] at h2
        have h : D0 c = 0 := h
        have h2 : D0 c = 1 := h2
        rw [h] at h2
        exact absurd h2 (by decide)
      obtain ⟨p, hp, hpc⟩ := hex
      obtain ⟨l1, l2, rfl⟩ := List.append_of_mem hp
      have pcR : ((p c : Int) : Rat) ≠ 0 := fun z => hpc (by exact_mod_cast z)
      let w' : (Nat → Int) → (Nat → Int) := fun w k => p c * w k - w c * p k
      let F : Vec → Vec := fun v k => v k - v c / (p c : Rat) * (p k : Rat)
      have LF : Lin F := ⟨fun k => by show (0 : Rat) - 0 / _ * _ = 0; grind, fun u v k => by show (u k + v k) - (u c + v c) / _ * _ = _ - u c / _ * _ + (v k - v c / _ * _); grind, fun r v k => by show r * v k - (r * v c) / _ * _ = r * (v k - v c / _ * _); grind⟩
      have Fw : ∀ w k, F (cast w) k = ((w' w k : Int) : Rat) / (p c : Rat) := fun w k => by
        show (w k : Rat) - (w c : Rat) / (p c : Rat) * (p k : Rat) = ((p c * w k - w c * p k : Int) : Rat) / (p c : Rat)
        rw [Rat.intCast_sub, Rat.intCast_mul, Rat.intCast_mul]
        grind
      have big : ∀ v, (∃ w ∈ l1 ++ p :: l2, v = cast w) → Span (fun v => ∃ w ∈ (l1 ++ l2).map w', v = cast w) (F v) := by
        rintro v ⟨w, hw, rfl⟩
        have hcase : w ∈ l1 ++ l2 ∨ w = p := by
          rcases List.mem_append.mp hw with h | h
          · exact .inl (List.mem_append_left _ h)
          · rcases List.mem_cons.mp h with h | h
            · exact .inr h
            · exact .inl (List.mem_append_right _ h)
        rcases hcase with h | rfl
        · have hg : Span (fun v => ∃ w ∈ (l1 ++ l2).map w', v = cast w) (cast (w' w)) := .gen ⟨w' w, List.mem_map.mpr ⟨w, h, rfl⟩, rfl⟩
          refine (hg.mul (1 / (p c : Rat))).congr fun k => ?_
          rw [Fw]
          show 1 / (p c : Rat) * ((w' w k : Int) : Rat) = _
          grind
        · refine Span.congr .zero fun k => ?_
          rw [Fw]
          show 0 = ((w c * w k - w c * w k : Int) : Rat) / _
          rw [Int.sub_self]
          show 0 = (0 : Rat) / _
          grind
      have mem0 : (c, D0) ∈ (c, D0) :: ds := List.mem_cons_self
      have ndc := D.nd
      rw [List.map_cons, List.nodup_cons] at ndc
      have hne : ∀ x ∈ ds, x.1 ≠ c := fun x hx e => ndc.1 (List.mem_map.mpr ⟨x, hx, e⟩)
      have zc : ∀ x ∈ ds, x.2 c = 0 := fun x hx => by
        have h := D.dlt x (List.mem_cons_of_mem _ hx) (c, D0) mem0
        rw [if_neg (hne x hx)] at h
        exact h
      -- the rest is dual again
      have w'c : ∀ w, w' w c = 0 := fun w => by
        show p c * w c - w c * p c = 0
        rw [Int.mul_comm]
        omega
      have inW : ∀ v, (∃ w ∈ (l1 ++ l2).map w', v = cast w) → Span (fun v => ∃ w ∈ l1 ++ p :: l2, v = cast w) v := by
        rintro v ⟨u, hu, rfl⟩
        obtain ⟨w, hw, rfl⟩ := List.mem_map.mp hu
        have h1 : Span (fun v => ∃ w ∈ l1 ++ p :: l2, v = cast w) (cast w) := .gen ⟨w, by
          rcases List.mem_append.mp hw with h | h
          · exact List.mem_append_left _ h
          · exact List.mem_append_right _ (List.mem_cons_of_mem _ h), rfl⟩
        have h2 : Span (fun v => ∃ w ∈ l1 ++ p :: l2, v = cast w) (cast p) := .gen ⟨p, hp, rfl⟩
        refine ((h1.mul (p c : Rat)).sub (h2.mul (w c : Rat))).congr fun k => ?_
        show (p c : Rat) * (w k : Rat) - (w c : Rat) * (p k : Rat) = ((p c * w k - w c * p k : Int) : Rat)
        rw [Rat.intCast_sub, Rat.intCast_mul, Rat.intCast_mul]
      have D' : Dual (fun v => ∃ w ∈ (l1 ++ l2).map w', v = cast w) ds := by
        refine ⟨ndc.2, fun x hx y hy => D.dlt x (List.mem_cons_of_mem _ hx) y (List.mem_cons_of_mem _ hy), fun x hx => ?_, fun v hv k => ?_⟩
        · refine (Span.map LF big (D.mem x (List.mem_cons_of_mem _ hx))).congr fun k => ?_
          show x.2 k - x.2 c / _ * _ = x.2 k
          rw [zc x hx]
          grind
        · have h := D.every (inW v hv) k
          have vc : v c = 0 := by
            obtain ⟨u, hu, rfl⟩ := hv
            obtain ⟨w, hw, rfl⟩ := List.mem_map.mp hu
            show ((w' w c : Int) : Rat) = 0
            rw [w'c]
            rfl
          rw [← h]
          show sumR ds (fun x => v x.1 * x.2 k) = v c * D0 k + sumR ds (fun x => v x.1 * x.2 k)
          rw [vc]
          grind
      have hb' : ∀ w ∈ (l1 ++ l2).map w', ∀ k, (w k).natAbs < 2 ^ (2 * n + 1) := by
        intro u hu k
        obtain ⟨w, hw', rfl⟩ := List.mem_map.mp hu
        have hwm : w ∈ l1 ++ p :: l2 := by
          rcases List.mem_append.mp hw' with h | h
          · exact List.mem_append_left _ h
          · exact List.mem_append_right _ (List.mem_cons_of_mem _ h)
        show (p c * w k - w c * p k).natAbs < _
        have h1 := lt_mul (hw p hp c) (hw w hwm k)
        have h2 := lt_mul (hw w hwm c) (hw p hp k)
        rw [show 2 * n = n + n by omega]
        exact lt_sub h1 h2
      have hlen : ((l1 ++ l2).map w').length ≤ q := by
        rw [List.length_map, List.length_append]
        rw [List.length_append, List.length_cons] at hq
        omega
      have hl' : ds.length ≤ 15 := by rw [List.length_cons] at hl; omega
      obtain ⟨d, hd, hdn, hz⟩ := ih (2 * n + 1) _ ds hlen (by omega) hb' D'
      have hf : fB (q + 1) n = n + fB q (2 * n + 1) + 5 := rfl
      have dR : (d : Rat) ≠ 0 := fun z => hd (by exact_mod_cast z)
      refine ⟨p c * d, Int.mul_ne_zero hpc hd, ?_, fun x hx k => ?_⟩
      · exact lt_mono (lt_mul (hw p hp c) hdn) (by omega)
      · rcases List.mem_cons.mp hx with rfl | hx
        · -- the first one
          have hE := D.all (cast p) ⟨p, hp, rfl⟩ k
          have hE : (p c : Rat) * D0 k + sumR ds (fun x => (p x.1 : Rat) * x.2 k) = (p k : Rat) := hE
          have hs : ∃ z : Int, z.natAbs ≤ ds.length * 2 ^ (n + fB q (2 * n + 1)) ∧ sumR ds (fun x => (p x.1 : Rat) * x.2 k) * (d : Rat) = (z : Rat) := by
            have hch : ∀ x ∈ ds, ∃ z : Int, z.natAbs < 2 ^ (n + fB q (2 * n + 1)) ∧ (p x.1 : Rat) * x.2 k * (d : Rat) = (z : Rat) := fun x hx => by
              obtain ⟨z, h1, h2⟩ := hz x hx k
              refine ⟨p x.1 * z, lt_mul (hw p hp _) h1, ?_⟩
              rw [Rat.intCast_mul, ← h2]
              grind
            have : ∀ l : DualL, (∀ x ∈ l, ∃ z : Int, z.natAbs < 2 ^ (n + fB q (2 * n + 1)) ∧ (p x.1 : Rat) * x.2 k * (d : Rat) = (z : Rat)) → ∃ z : Int, z.natAbs ≤ l.length * 2 ^ (n + fB q (2 * n + 1)) ∧ sumR l (fun x => (p x.1 : Rat) * x.2 k) * (d : Rat) = (z : Rat) := by
              intro l
              induction l with
              | nil => intro _; exact ⟨0, by simp, by simp [sumR]⟩
              | cons y l ihl =>
                intro h
                obtain ⟨z, hz1, hz2⟩ := ihl fun x hx => h x (List.mem_cons_of_mem _ hx)
                obtain ⟨u, hu1, hu2⟩ := h y List.mem_cons_self
                refine ⟨u + z, ?_, ?_⟩
                · rw [List.length_cons, Nat.succ_mul]
                  omega
                · simp only [sumR]
                  rw [Rat.intCast_add, ← hz2, ← hu2]
                  grind
            exact this ds hch
          obtain ⟨z, hz1, hz2⟩ := hs
          refine ⟨p k * d - z, ?_, ?_⟩
          · have h1 := lt_mul (hw p hp k) hdn
            have h2 : z.natAbs ≤ 15 * 2 ^ (n + fB q (2 * n + 1)) := Nat.le_trans hz1 (Nat.mul_le_mul_right _ hl')
            rw [hf, Nat.pow_add]
            generalize 2 ^ (n + fB q (2 * n + 1)) = B at *
            have : (2 : Nat) ^ 5 = 32 := by decide
            rw [this]
            omega
          · show D0 k * ((p c * d : Int) : Rat) = _
            rw [Rat.intCast_sub, Rat.intCast_mul, Rat.intCast_mul, ← hz2, ← hE]
            grind
        · obtain ⟨z, h1, h2⟩ := hz x hx k
          refine ⟨p c * z, lt_mono (lt_mul (hw p hp c) h1) (by omega), ?_⟩
          rw [Rat.intCast_mul, Rat.intCast_mul, ← h2]
          grind
end Sl

/-! What the rows made plain are: dual to their columns, over the rows that they were made of. -/
namespace Sl
open Kp340 Kp341 Kp342 Kp343
def val (x : Fr) : Rat := (x.1 : Rat) / (x.2 : Rat)
def vec (r : Row) : Vec := fun k => val (r.getD k (0, 1))
theorem icast {z : Int} (h : z ≠ 0) : (z : Rat) ≠ 0 := fun e => h (by exact_mod_cast e)
theorem val_fr {a b : Int} (hb : b ≠ 0) : val (fr a b) = (a : Rat) / (b : Rat) := by
  have h := fr_cross a b hb
  have n := (fr_ok a b hb).ne
  have h2 : ((fr a b).1 : Rat) * (b : Rat) = (a : Rat) * ((fr a b).2 : Rat) := by
    rw [← Rat.intCast_mul, ← Rat.intCast_mul, h]
  have n1 := icast n
  have n2 := icast hb
  unfold val
  generalize ((fr a b).1 : Rat) = x at *
  generalize ((fr a b).2 : Rat) = y at *
  generalize (a : Rat) = u at *
  generalize (b : Rat) = v at *
  grind
theorem val_add {p q : Fr} (hp : Ok p) (hq : Ok q) : val (add p q) = val p + val q := by
  unfold add
  rw [val_fr (mulne hp.ne hq.ne), Rat.intCast_add, Rat.intCast_mul, Rat.intCast_mul, Rat.intCast_mul]
  have n1 := icast hp.ne
  have n2 := icast hq.ne
  unfold val
  grind
theorem val_mul {p q : Fr} (hp : Ok p) (hq : Ok q) : val (mul p q) = val p * val q := by
  unfold mul
  rw [val_fr (mulne hp.ne hq.ne), Rat.intCast_mul, Rat.intCast_mul]
  have n1 := icast hp.ne
  have n2 := icast hq.ne
  unfold val
  grind
theorem val_neg (p : Fr) : val (neg p) = - val p := by
  unfold val neg
  rw [Rat.intCast_neg]
  grind
theorem val_inv {p : Fr} (hp : Ok p) (h : p.1 ≠ 0) : val (inv p) = 1 / val p := by
  unfold inv
  rw [val_fr h]
  have n1 := icast hp.ne
  have n2 := icast h
  unfold val
  grind
theorem val01 : val (0, 1) = 0 := by
  unfold val
  show ((0 : Int) : Rat) / _ = 0
  rw [show ((0 : Int) : Rat) = 0 from rfl]
  grind
theorem val11 : val (1, 1) = 1 := by
  unfold val
  show ((1 : Int) : Rat) / ((1 : Int) : Rat) = 1
  rw [show ((1 : Int) : Rat) = 1 from rfl]
  grind
theorem valI (i : Int) : val (i, 1) = (i : Rat) := by
  unfold val
  show (i : Rat) / ((1 : Int) : Rat) = _
  rw [show ((1 : Int) : Rat) = 1 from rfl]
  grind
theorem val_ne {p : Fr} (hp : Ok p) (h : p.1 ≠ 0) : val p ≠ 0 := by
  have n1 := icast hp.ne
  have n2 := icast h
  unfold val
  grind
/-- in lowest terms, that number over that one -/
theorem val_is {x : Fr} {z d : Int} (hx : Ok x) (hd : d ≠ 0) (h : val x * (d : Rat) = (z : Rat)) : x = fr z d := by
  refine (fr_is hd hx ?_).symm
  have n1 := icast hx.ne
  have h2 : (z : Rat) * (x.2 : Rat) = (x.1 : Rat) * (d : Rat) := by
    rw [← h]
    unfold val
    grind
  rw [← Rat.intCast_mul, ← Rat.intCast_mul] at h2
  exact_mod_cast h2
theorem vec_out {r : Row} {k : Nat} (h : r.length ≤ k) : vec r k = 0 := by
  unfold vec
  rw [getD_out h, val01]
theorem vec_clear {c w : Nat} {p r : Row} (gr : Good w r) (gp : Good w p) (k : Nat) : vec (clear c p r) k = vec r k - vec r c * vec p k := by
  have hl : r.length = p.length := by rw [gr.1, gp.1]
  by_cases hk : k < r.length
  · show val ((clear c p r).getD k (0, 1)) = _
    rw [clear_getD hl hk, val_add (gr.at k) (mul_ok (gr.at c).neg (gp.at k)), val_mul (gr.at c).neg (gp.at k), val_neg]
    show val (r.getD k (0, 1)) + -val (r.getD c (0, 1)) * val (p.getD k (0, 1)) = val (r.getD k (0, 1)) - val (r.getD c (0, 1)) * val (p.getD k (0, 1))
    grind
  · rw [vec_out (by rw [clear_len hl]; omega), vec_out (r := r) (by omega), vec_out (r := p) (by omega)]
    grind
theorem vec_led {c w : Nat} {r : Row} (gr : Good w r) (h0 : (r.getD c (0, 1)).1 ≠ 0) (k : Nat) : vec (timesRow (inv (r.getD c (0, 1))) r) k * vec r c = vec r k := by
  have hv := val_ne (gr.at c) h0
  by_cases hk : k < r.length
  · show val ((timesRow (inv (r.getD c (0, 1))) r).getD k (0, 1)) * val (r.getD c (0, 1)) = val (r.getD k (0, 1))
    unfold timesRow
    rw [map_getD (d := (0, 1)) hk, val_mul (inv_ok h0) (gr.at k), val_inv (gr.at c) h0]
    grind
  · rw [vec_out (by unfold timesRow; rw [List.length_map]; omega), vec_out (r := r) (k := k) (by omega)]
    grind
theorem expand_step (ds : DualL) (P : Vec) (c : Nat) (v : Vec) (k : Nat) : expand (ds.map (fun x => (x.1, fun k => x.2 k - x.2 c * P k)) ++ [(c, P)]) v k = expand ds v k + (v c - expand ds v c) * P k := by
  unfold expand
  rw [sumR_app, sumR_map]
  have e : sumR ds (fun x => v x.1 * (x.2 k - x.2 c * P k)) = sumR ds (fun x => v x.1 * x.2 k) + (- P k) * sumR ds (fun x => v x.1 * x.2 c) := by
    rw [← sumR_mul, ← sumR_add]
    exact sumR_congr fun x _ => by grind
  show sumR ds (fun x => v x.1 * (x.2 k - x.2 c * P k)) + (v c * P k + 0) = _
  rw [e]
  grind
theorem dual_step {G : Vec → Prop} {ds : DualL} (D : Dual G ds) {c : Nat} {o P : Vec} {q : Rat} (hq : q ≠ 0) (hc : ∀ x ∈ ds, x.1 ≠ c) (hP : ∀ k, o k - expand ds o k = q * P k) (P1 : P c = 1) (P0 : ∀ x ∈ ds, P x.1 = 0) :
    Dual (fun v => G v ∨ v = o) (ds.map (fun x => (x.1, fun k => x.2 k - x.2 c * P k)) ++ [(c, P)]) := by
  have sP : Span (fun v => G v ∨ v = o) P := by
    have h1 : Span (fun v => G v ∨ v = o) o := .gen (.inr rfl)
    have h2 : Span (fun v => G v ∨ v = o) (expand ds o) := by
      unfold expand
      refine Span.sum (l := ds) (f := fun x k => o x.1 * x.2 k) fun x hx => ?_
      exact (Span.mono (fun v hv => .gen (.inl hv)) (D.mem x hx)).mul _
    refine ((h1.sub h2).mul (1 / q)).congr fun k => ?_
    rw [hP]
    grind
  refine ⟨?_, ?_, ?_, ?_⟩
  · rw [List.map_append, List.map_map]
    refine List.nodup_append.mpr ⟨D.nd, List.pairwise_singleton _ _, fun a ha b hb => ?_⟩
    obtain ⟨x, hx, rfl⟩ := List.mem_map.mp ha
    rw [List.mem_singleton.mp hb]
    exact hc x hx
  · intro x hx y hy
    rcases List.mem_append.mp hx with hx | hx
    · obtain ⟨x, hx1, rfl⟩ := List.mem_map.mp hx
      clear hx; have hx := hx1
      rcases List.mem_append.mp hy with hy | hy
      · obtain ⟨y, hy1, rfl⟩ := List.mem_map.mp hy
        clear hy; have hy := hy1
        show x.2 y.1 - x.2 c * P y.1 = if x.1 = y.1 then 1 else 0
        rw [P0 y hy, ← D.dlt x hx y hy]
        grind
      · rw [List.mem_singleton.mp hy]
        show x.2 c - x.2 c * P c = if x.1 = c then 1 else 0
        rw [P1, if_neg (hc x hx)]
        grind
    · rw [List.mem_singleton.mp hx]
      rcases List.mem_append.mp hy with hy | hy
      · obtain ⟨y, hy1, rfl⟩ := List.mem_map.mp hy
        clear hy; have hy := hy1
        show P y.1 = if c = y.1 then 1 else 0
        rw [P0 y hy, if_neg fun e => hc y hy e.symm]
      · rw [List.mem_singleton.mp hy]
        show P c = if c = c then 1 else 0
        rw [P1, if_pos rfl]
  · intro x hx
    rcases List.mem_append.mp hx with hx | hx
    · obtain ⟨x, hx1, rfl⟩ := List.mem_map.mp hx
      clear hx; have hx := hx1
      refine ((Span.mono (fun v hv => .gen (.inl hv)) (D.mem x hx)).sub (sP.mul (x.2 c))).congr fun k => rfl
    · rw [List.mem_singleton.mp hx]
      exact sP
  · intro v hv k
    rw [expand_step]
    rcases hv with hv | rfl
    · rw [D.all v hv k, D.all v hv c]
      grind
    · have h1 := hP k
      have h2 := hP c
      rw [P1] at h2
      grind
def dualOf (s : List (Nat × Row) × List Row) : DualL := s.1.map fun x => (x.1, vec x.2)
structure EInv (rows : List Row) (s : List (Nat × Row) × List Row) (U : Row → Prop) : Prop where
  used : ∀ r, U r → r ∈ rows
  dual : Dual (fun v => ∃ r, U r ∧ v = vec r) (dualOf s)
  rest : ∀ r ∈ s.2, ∃ o ∈ rows, ∀ k, vec r k = vec o k - expand (dualOf s) (vec o) k
theorem pStep_E {w c : Nat} {rows : List Row} {s : List (Nat × Row) × List Row} {U : Row → Prop} (hc : c < w) (I : PInv w c s) (E : EInv rows s U) : ∃ U', EInv rows (pStep s c) U' := by
  unfold pStep
  split
  · exact ⟨U, E⟩
  · rename_i i h
    obtain ⟨hi, hp, _⟩ := findIdx_some (d := []) h
    have hr := mem_getD (d := []) hi
    obtain ⟨gr, gz⟩ := I.rest _ hr
    obtain ⟨o, ho, eo⟩ := E.rest _ hr
    dsimp only
    generalize s.2.getD i [] = r at *
    have h0 : (r.getD c (0, 1)).1 ≠ 0 := fun z => by
      rw [zero_iff.mpr z] at hp
      exact absurd hp (by decide)
    have gp := led_good gr h0
    have vl := vec_led gr h0
    have hv : vec r c ≠ 0 := val_ne (gr.at c) h0
    have rz : ∀ k, k < c → vec r k = 0 := fun k hk => by
      show val (r.getD k (0, 1)) = 0
      rw [gz k hk, val01]
    generalize timesRow (inv (r.getD c (0, 1))) r = p at *
    have ed : dualOf (s.1.map (fun x => (x.1, clear c p x.2)) ++ [(c, p)], (s.2.take i ++ s.2.drop (i + 1)).map (clear c p)) = (dualOf s).map (fun x => (x.1, fun k => x.2 k - x.2 c * vec p k)) ++ [(c, vec p)] := by
      unfold dualOf
      rw [List.map_append, List.map_map, List.map_map]
      refine congrArg (· ++ [(c, vec p)]) (List.map_congr_left fun x hx => ?_)
      refine Prod.ext rfl (funext fun k => ?_)
      exact vec_clear (I.done x hx).2.1 gp k
    have hlc : ∀ x ∈ dualOf s, x.1 < c := fun x hx => by
      obtain ⟨y, hy, rfl⟩ := List.mem_map.mp hx
      exact (I.done y hy).1
    have D' := dual_step E.dual (c := c) (o := vec o) (P := vec p) (q := vec r c) hv (fun x hx => Nat.ne_of_lt (hlc x hx)) (fun k => by rw [← eo k, ← vl k]; grind) (by have := vl c; grind) (fun x hx => by
      have h1 := vl x.1
      rw [rz x.1 (hlc x hx)] at h1
      grind)
    refine ⟨fun r => U r ∨ r = o, ?_, ?_, ?_⟩
    · rintro r (hu | rfl)
      · exact E.used r hu
      · exact ho
    · rw [ed]
      refine ⟨D'.nd, D'.dlt, fun x hx => Span.mono (fun v hv => .gen ?_) (D'.mem x hx), fun v hv => D'.all v ?_⟩
      · rcases hv with ⟨r, hu, rfl⟩ | rfl
        · exact ⟨r, .inl hu, rfl⟩
        · exact ⟨o, .inr rfl, rfl⟩
      · obtain ⟨r, hu | rfl, rfl⟩ := hv
        · exact .inl ⟨r, hu, rfl⟩
        · exact .inr rfl
    · intro q hq
      obtain ⟨y, hy, rfl⟩ := List.mem_map.mp hq
      have hy' : y ∈ s.2 := by
        rcases List.mem_append.mp hy with h | h
        · exact List.mem_of_mem_take h
        · exact List.mem_of_mem_drop h
      obtain ⟨oy, hoy, ey⟩ := E.rest y hy'
      refine ⟨oy, hoy, fun k => ?_⟩
      rw [ed, expand_step, vec_clear (I.rest y hy').1 gp, ey k, ey c]
      grind
theorem fold_E {w : Nat} {rows : List Row} (hg : ∀ r ∈ rows, Good w r) : ∀ c, c ≤ w → ∃ U, EInv rows ((List.range c).foldl pStep ([], rows)) U
  | 0, _ => ⟨fun _ => False, fun r h => h.elim, ⟨List.Pairwise.nil, fun x hx => absurd hx List.not_mem_nil, fun x hx => absurd hx List.not_mem_nil, fun v ⟨r, h, _⟩ => h.elim⟩, fun r hr => ⟨r, hr, fun k => by
      show vec r k = vec r k - 0
      grind⟩⟩
  | c + 1, h => by
    rw [List.range_succ, List.foldl_append]
    obtain ⟨U, E⟩ := fold_E hg c (by omega)
    exact pStep_E (by omega) (fold_inv hg c (by omega)) E
end Sl

/-! Hidden rows: the numbers on the way stay small. -/
namespace Sl
open Kp340 Kp341 Kp342 Kp343
/-- rows of two kinds: few of small whole numbers; and of each class which columns are in it -/
structure Two (w : Nat) (subs : List (Nat → Int)) (cls : Nat → Nat) (rows : List Row) : Prop where
  few : subs.length ≤ 4
  small : ∀ u ∈ subs, ∀ k, 0 ≤ u k ∧ u k ≤ 3
  kinds : ∀ r ∈ rows, (∃ u ∈ subs, vec r = cast u) ∨ (∃ j i, i < w ∧ cls i = j ∧ vec r = fun k => if k < w ∧ cls k = j then 1 else 0)
def clsVec (w : Nat) (cls : Nat → Nat) (j : Nat) : Vec := fun k => if k < w ∧ cls k = j then 1 else 0
section
variable {w : Nat} {subs : List (Nat → Int)} {cls : Nat → Nat} {rows : List Row} {U : Row → Prop} {ds : DualL}
/-- is the class of this column among the rows used? -/
def InU (w : Nat) (cls : Nat → Nat) (U : Row → Prop) (j : Nat) : Prop := ∃ r, U r ∧ vec r = clsVec w cls j ∧ ∃ i, i < w ∧ cls i = j
theorem pick (D : Dual (fun v => ∃ r, U r ∧ v = vec r) ds) {j : Nat} (h : InU w cls U j) : ∃ x ∈ ds, x.1 < w ∧ cls x.1 = j := by
  obtain ⟨r, hr, e, i, hi, hj⟩ := h
  refine Classical.byContradiction fun hn => ?_
  have h1 := D.all (vec r) ⟨r, hr, rfl⟩ i
  rw [e] at h1
  have h2 : expand ds (clsVec w cls j) i = 0 := by
    unfold expand
    refine sumR_zero fun x hx => ?_
    have : clsVec w cls j x.1 = 0 := by
      unfold clsVec
      exact if_neg fun z => hn ⟨x, hx, z⟩
    rw [this]
    grind
  rw [h2] at h1
  have h3 : clsVec w cls j i = 1 := by
    unfold clsVec
    exact if_pos ⟨hi, hj⟩
  rw [h3] at h1
  exact absurd h1 (by decide)
open Classical in
/-- the column that's picked for a class -/
noncomputable def pk (w : Nat) (cls : Nat → Nat) (ds : DualL) (j : Nat) : Nat := if h : ∃ x ∈ ds, x.1 < w ∧ cls x.1 = j then (Classical.choose h).1 else 0
theorem pk_spec {j : Nat} (h : ∃ x ∈ ds, x.1 < w ∧ cls x.1 = j) : (∃ x ∈ ds, x.1 = pk w cls ds j) ∧ pk w cls ds j < w ∧ cls (pk w cls ds j) = j := by
  unfold pk
  rw [dif_pos h]
  obtain ⟨a, b, c⟩ := Classical.choose_spec h
  exact ⟨⟨_, a, rfl⟩, b, c⟩
open Classical in
/-- without the classes that are used -/
noncomputable def offI (w : Nat) (cls : Nat → Nat) (U : Row → Prop) (ds : DualL) (u : Nat → Int) : Nat → Int := fun k => u k - if k < w ∧ InU w cls U (cls k) then u (pk w cls ds (cls k)) else 0
open Classical in
noncomputable def off (w : Nat) (cls : Nat → Nat) (U : Row → Prop) (ds : DualL) (v : Vec) : Vec := fun k => v k - if k < w ∧ InU w cls U (cls k) then v (pk w cls ds (cls k)) else 0
theorem off_lin : Lin (off w cls U ds) where
  zero k := by
    unfold off
    split <;> grind
  add u v k := by
    unfold off
    split <;> grind
  mul q v k := by
    unfold off
    split <;> grind
theorem off_cast (u : Nat → Int) (k : Nat) : off w cls U ds (cast u) k = cast (offI w cls U ds u) k := by
  unfold off offI cast
  dsimp only
  by_cases h : k < w ∧ InU w cls U (cls k)
  · rw [if_pos h, if_pos h, Rat.intCast_sub]
  · rw [if_neg h, if_neg h, Rat.intCast_sub]
    rfl
theorem off_cls (D : Dual (fun v => ∃ r, U r ∧ v = vec r) ds) {j : Nat} (h : InU w cls U j) (k : Nat) : off w cls U ds (clsVec w cls j) k = 0 := by
  unfold off
  by_cases hk : k < w ∧ InU w cls U (cls k)
  · rw [if_pos hk]
    obtain ⟨_, p1, p2⟩ := pk_spec (pick D hk.2)
    unfold clsVec
    by_cases hj : cls k = j
    · rw [if_pos ⟨hk.1, hj⟩, if_pos ⟨p1, p2.trans hj⟩]
      grind
    · rw [if_neg (fun z => hj z.2), if_neg (fun z => hj (p2.symm.trans z.2))]
      grind
  · rw [if_neg hk]
    unfold clsVec
    rw [if_neg]
    · grind
    · rintro ⟨h1, h2⟩
      exact hk ⟨h1, by rw [h2]; exact h⟩
theorem sumR_one {α : Type} {a : α} {f : α → Rat} : ∀ {l : List α}, l.Nodup → a ∈ l → (∀ x ∈ l, x ≠ a → f x = 0) → sumR l f = f a
  | [], _, h, _ => absurd h List.not_mem_nil
  | x :: l, nd, h, hz => by
    have nd := List.nodup_cons.mp nd
    by_cases e : x = a
    · subst e
      show f x + sumR l f = f x
      rw [sumR_zero fun y hy => hz y (List.mem_cons_of_mem _ hy) fun z => nd.1 (z ▸ hy)]
      grind
    · rcases List.mem_cons.mp h with h | h
      · exact absurd h.symm e
      · show f x + sumR l f = f a
        rw [hz x List.mem_cons_self e, sumR_one nd.2 h fun y hy => hz y (List.mem_cons_of_mem _ hy)]
        grind
theorem sumR_split {α : Type} (p : α → Bool) (f : α → Rat) : ∀ l : List α, sumR l f = sumR (l.filter p) f + sumR (l.filter fun x => !p x) f
  | [] => by show (0 : Rat) = 0 + 0; grind
  | x :: l => by
    have ih := sumR_split p f l
    rw [List.filter_cons, List.filter_cons]
    cases p x
    · show f x + sumR l f = sumR (l.filter p) f + (f x + sumR (l.filter fun x => !p x) f)
      rw [ih]; grind
    · show f x + sumR l f = (f x + sumR (l.filter p) f) + sumR (l.filter fun x => !p x) f
      rw [ih]; grind
theorem sum_int {α : Type} {a : Nat} {d : Rat} {g : α → Rat} : ∀ {l : List α}, (∀ x ∈ l, ∃ z : Int, z.natAbs < 2 ^ a ∧ g x * d = (z : Rat)) → ∃ z : Int, z.natAbs ≤ l.length * 2 ^ a ∧ sumR l g * d = (z : Rat)
  | [], _ => ⟨0, by simp, by show (0 : Rat) * d = ((0 : Int) : Rat); rw [show ((0 : Int) : Rat) = 0 from rfl]; grind⟩
  | y :: l, h => by
    obtain ⟨z, hz1, hz2⟩ := sum_int (l := l) fun x hx => h x (List.mem_cons_of_mem _ hx)
    obtain ⟨u, hu1, hu2⟩ := h y List.mem_cons_self
    refine ⟨u + z, ?_, ?_⟩
    · rw [List.length_cons, Nat.succ_mul]
      omega
    · show (g y + sumR l g) * d = _
      rw [Rat.intCast_add, ← hz2, ← hu2]
      grind
open Classical in
noncomputable def usedCls (w : Nat) (cls : Nat → Nat) (U : Row → Prop) : List Nat := (((List.range w).map cls).eraseDups).filter fun j => decide (InU w cls U j)
theorem nodup_eraseDups (l : List Nat) : l.eraseDups.Nodup := by
  have key : ∀ (l acc : List Nat), acc.Nodup → (List.eraseDupsBy.loop (fun x y => x == y) l acc).Nodup := by
    intro l
    induction l with
    | nil => intro acc h; exact List.pairwise_reverse.mpr (h.imp fun h e => h e.symm)
    | cons x l ih =>
      intro acc h
      unfold List.eraseDupsBy.loop
      split
      · exact ih acc h
      · rename_i hx
        refine ih (x :: acc) (List.nodup_cons.mpr ⟨fun hm => ?_, h⟩)
        have : (acc.any fun y => x == y) = true := List.any_eq_true.mpr ⟨x, hm, beq_self_eq_true x⟩
        rw [this] at hx
        cases hx
  exact key l [] List.Pairwise.nil
open Classical in
theorem off_sum (v : Vec) (k : Nat) : off w cls U ds v k = v k - sumR (usedCls w cls U) fun j => v (pk w cls ds j) * clsVec w cls j k := by
  unfold off
  have nd : (usedCls w cls U).Nodup := List.Pairwise.filter _ (nodup_eraseDups _)
  by_cases h : k < w ∧ InU w cls U (cls k)
  · rw [if_pos h, sumR_one (a := cls k) nd]
    · unfold clsVec
      rw [if_pos ⟨h.1, rfl⟩]
      grind
    · unfold usedCls
      refine List.mem_filter.mpr ⟨List.mem_eraseDups.mpr (List.mem_map.mpr ⟨k, List.mem_range.mpr h.1, rfl⟩), decide_eq_true h.2⟩
    · intro j _ hj
      unfold clsVec
      rw [if_neg fun z => hj z.2.symm]
      grind
  · rw [if_neg h, sumR_zero]
    intro j hj
    have hj2 := of_decide_eq_true (List.mem_filter.mp hj).2
    unfold clsVec
    rw [if_neg]
    · grind
    · rintro ⟨h1, h2⟩
      exact h ⟨h1, by rw [h2]; exact hj2⟩
open Classical in
theorem off_span {v : Vec} (hv : Span (fun v => ∃ r, U r ∧ v = vec r) v) : Span (fun v => ∃ r, U r ∧ v = vec r) (off w cls U ds v) := by
  have h : Span (fun v => ∃ r, U r ∧ v = vec r) fun k => sumR (usedCls w cls U) fun j => v (pk w cls ds j) * clsVec w cls j k := by
    refine Span.sum (f := fun j k => v (pk w cls ds j) * clsVec w cls j k) fun j hj => ?_
    obtain ⟨r, hr, e, _⟩ := of_decide_eq_true (List.mem_filter.mp hj).2
    exact Span.mul _ (.gen ⟨r, hr, e.symm⟩)
  exact (hv.sub h).congr fun k => (off_sum v k).symm
open Classical in
theorem two_small (T : Two w subs cls rows) (hU : ∀ r, U r → r ∈ rows) (D : Dual (fun v => ∃ r, U r ∧ v = vec r) ds) (hl : ds.length ≤ 16) :
    ∃ d : Int, d ≠ 0 ∧ d.natAbs < 2 ^ 62 ∧ ∀ x ∈ ds, ∀ k, ∃ z : Int, z.natAbs < 2 ^ 67 ∧ x.2 k * (d : Rat) = (z : Rat) := by
  let P : Nat × Vec → Bool := fun x => !decide (∃ j, InU w cls U j ∧ pk w cls ds j = x.1)
  let subs' := (subs.filter fun u => decide (∃ r, U r ∧ vec r = cast u)).map (offI w cls U ds)
  have hP : ∀ x ∈ ds.filter P, x ∈ ds ∧ ∀ j, InU w cls U j → pk w cls ds j ≠ x.1 := fun x hx => by
    obtain ⟨h1, h2⟩ := List.mem_filter.mp hx
    refine ⟨h1, fun j hj e => ?_⟩
    have : decide (∃ j, InU w cls U j ∧ pk w cls ds j = x.1) = true := decide_eq_true ⟨j, hj, e⟩
    rw [show P x = !decide (∃ j, InU w cls U j ∧ pk w cls ds j = x.1) from rfl, this] at h2
    cases h2
  have hQ : ∀ x, P x = false → ∃ j, InU w cls U j ∧ pk w cls ds j = x.1 := fun x hx => by
    have : decide (∃ j, InU w cls U j ∧ pk w cls ds j = x.1) = true := by
      have : (!decide (∃ j, InU w cls U j ∧ pk w cls ds j = x.1)) = false := hx
      simpa using this
    exact of_decide_eq_true this
  have offZ : ∀ (v : Vec) (j : Nat), InU w cls U j → off w cls U ds v (pk w cls ds j) = 0 := fun v j hj => by
    obtain ⟨_, p1, p2⟩ := pk_spec (pick D hj)
    unfold off
    rw [if_pos ⟨p1, by rw [p2]; exact hj⟩, p2]
    grind
  have D' : Dual (fun v => ∃ u ∈ subs', v = cast u) (ds.filter P) := by
    refine ⟨?_, fun x hx y hy => D.dlt x (hP x hx).1 y (hP y hy).1, fun x hx => ?_, ?_⟩
    · exact List.Pairwise.sublist (List.Sublist.map _ List.filter_sublist) D.nd
    · obtain ⟨hx1, hx2⟩ := hP x hx
      refine (Span.map (G' := fun v => ∃ u ∈ subs', v = cast u) (off_lin (w := w) (cls := cls) (U := U) (ds := ds)) ?_ (D.mem x hx1)).congr fun k => ?_
      · rintro v ⟨r, hr, rfl⟩
        rcases T.kinds r (hU r hr) with ⟨u, hu, e⟩ | ⟨j, i, hi, hj, e⟩
        · refine .gen ⟨offI w cls U ds u, List.mem_map.mpr ⟨u, List.mem_filter.mpr ⟨hu, decide_eq_true ⟨r, hr, e⟩⟩, rfl⟩, ?_⟩
          rw [e]
          exact funext fun k => off_cast u k
        · refine Span.congr .zero fun k => ?_
          rw [e]
          exact (off_cls D ⟨r, hr, e, i, hi, hj⟩ k).symm
      · unfold off
        by_cases h : k < w ∧ InU w cls U (cls k)
        · rw [if_pos h]
          obtain ⟨⟨y, hy, ey⟩, _, _⟩ := pk_spec (pick D h.2)
          have := D.dlt x hx1 y hy
          rw [if_neg (fun z => hx2 _ h.2 (by rw [← ey, z]))] at this
          rw [← ey, this]
          grind
        · rw [if_neg h]
          grind
    · rintro v ⟨u', hu', rfl⟩ k
      obtain ⟨u, hu, rfl⟩ := List.mem_map.mp hu'
      obtain ⟨r, hr, e⟩ := of_decide_eq_true (List.mem_filter.mp hu).2
      have ev : cast (offI w cls U ds u) = off w cls U ds (vec r) := by
        rw [e]
        exact funext fun k => (off_cast u k).symm
      have hs : Span (fun v => ∃ r, U r ∧ v = vec r) (cast (offI w cls U ds u)) := by
        rw [ev]
        exact off_span (.gen ⟨r, hr, rfl⟩)
      rw [← D.every hs k]
      unfold expand
      rw [sumR_split P _ ds]
      have : sumR (ds.filter fun x => !P x) (fun x => cast (offI w cls U ds u) x.1 * x.2 k) = 0 := by
        refine sumR_zero fun x hx => ?_
        have hx2 := (List.mem_filter.mp hx).2
        obtain ⟨j, hj, ej⟩ := hQ x (by simpa using hx2)
        rw [ev, ← ej, offZ _ j hj]
        grind
      rw [this]
      grind
  have hsub : subs'.length ≤ 4 := by
    show ((subs.filter _).map _).length ≤ 4
    rw [List.length_map]
    exact Nat.le_trans (List.length_filter_le _ _) T.few
  have hsm : ∀ u ∈ subs', ∀ k, (u k).natAbs < 2 ^ 2 := by
    intro u' hu' k
    obtain ⟨u, hu, rfl⟩ := List.mem_map.mp hu'
    have h1 := T.small u (List.mem_filter.mp hu).1 k
    have h2 := T.small u (List.mem_filter.mp hu).1 (pk w cls ds (cls k))
    have : (2 : Nat) ^ 2 = 4 := by decide
    unfold offI
    split <;> omega
  have hl' : (ds.filter P).length ≤ 16 := Nat.le_trans (List.length_filter_le _ _) hl
  obtain ⟨d, hd, hdn, hz⟩ := dual_small 4 2 subs' (ds.filter P) hsub hl' hsm D'
  have ef : fB 4 2 = 62 := by decide
  rw [ef] at hdn hz
  refine ⟨d, hd, hdn, fun x hx k => ?_⟩
  by_cases hpx : P x = true
  · obtain ⟨z, h1, h2⟩ := hz x (List.mem_filter.mpr ⟨hx, hpx⟩) k
    exact ⟨z, lt_mono h1 (by decide), h2⟩
  · obtain ⟨j, hj, ej⟩ := hQ x (by simpa using hpx)
    have hj2 := hj
    obtain ⟨r, hr, e, _⟩ := hj2
    have hE := D.all (vec r) ⟨r, hr, rfl⟩ k
    rw [e] at hE
    unfold expand at hE
    rw [sumR_split P _ ds] at hE
    have ndl : ds.Nodup := by
      have := D.nd
      exact (List.pairwise_map.mp this).imp fun h e => h (by rw [e])
    have h2 : sumR (ds.filter fun x => !P x) (fun y => clsVec w cls j y.1 * y.2 k) = clsVec w cls j x.1 * x.2 k := by
      refine sumR_one (List.Pairwise.filter _ ndl) (List.mem_filter.mpr ⟨hx, by simpa using hpx⟩) fun y hy hne => ?_
      obtain ⟨hy1, hy2⟩ := List.mem_filter.mp hy
      obtain ⟨j', hj', ej'⟩ := hQ y (by simpa using hy2)
      obtain ⟨_, p1, p2⟩ := pk_spec (pick D hj')
      have : clsVec w cls j y.1 = 0 := by
        unfold clsVec
        refine if_neg fun z => hne ?_
        rw [← ej', p2] at z
        have e1 : x.1 = y.1 := by rw [← ej, ← ej', z.2]
        refine Classical.byContradiction fun hxy => ?_
        have := List.pairwise_map.mp D.nd
        have key : ∀ l : DualL, l.Pairwise (fun a b => a.1 ≠ b.1) → x ∈ l → y ∈ l → y ≠ x → x.1 ≠ y.1 := by
          intro l
          induction l with
          | nil => intro _ h; exact absurd h List.not_mem_nil
          | cons a l ih =>
            intro hp hx hy hn
            have hp := List.pairwise_cons.mp hp
            rcases List.mem_cons.mp hx with ex | hx'
            · rcases List.mem_cons.mp hy with ey | hy'
              · exact absurd (ey.trans ex.symm) hn
              · rw [ex]; exact hp.1 y hy'
            · rcases List.mem_cons.mp hy with ey | hy'
              · rw [ey]; exact fun z => hp.1 x hx' z.symm
              · exact ih hp.2 hx' hy' hn
        exact key ds this hx hy1 hxy e1
      rw [this]
      grind
    obtain ⟨_, p1, p2⟩ := pk_spec (pick D hj)
    have h1 : clsVec w cls j x.1 = 1 := by
      rw [← ej]
      unfold clsVec
      exact if_pos ⟨p1, p2⟩
    rw [h2, h1] at hE
    have hint : ∀ y ∈ ds.filter P, ∃ z : Int, z.natAbs < 2 ^ 62 ∧ clsVec w cls j y.1 * y.2 k * (d : Rat) = (z : Rat) := fun y hy => by
      obtain ⟨z, hz1, hz2⟩ := hz y hy k
      unfold clsVec
      split
      · exact ⟨z, hz1, by rw [← hz2]; grind⟩
      · refine ⟨0, by decide, ?_⟩
        rw [show ((0 : Int) : Rat) = 0 from rfl]
        grind
    obtain ⟨z, hz1, hz2⟩ := sum_int hint
    have hz3 : z.natAbs ≤ 16 * 2 ^ 62 := Nat.le_trans hz1 (Nat.mul_le_mul_right _ hl')
    have p67 : (2 : Nat) ^ 67 = 32 * 2 ^ 62 := by decide
    have hc : ∃ c : Int, c.natAbs ≤ 1 ∧ clsVec w cls j k = (c : Rat) := by
      unfold clsVec
      split
      · exact ⟨1, by decide, rfl⟩
      · exact ⟨0, by decide, rfl⟩
    obtain ⟨c, hc1, hc2⟩ := hc
    refine ⟨c * d - z, ?_, ?_⟩
    · have : (c * d).natAbs ≤ d.natAbs := by
        rw [Int.natAbs_mul]
        exact Nat.le_trans (Nat.mul_le_mul_right _ hc1) (by omega)
      rw [p67]
      generalize (2 : Nat) ^ 62 = B at *
      omega
    · rw [Rat.intCast_sub, Rat.intCast_mul, ← hz2, ← hc2, ← hE]
      grind
theorem rowB_of {r : Row} (g : Good w r) {d : Int} {n : Nat} (hd : d ≠ 0) (hdn : d.natAbs < 2 ^ n) (h : ∀ k, ∃ z : Int, z.natAbs < 2 ^ n ∧ vec r k * (d : Rat) = (z : Rat)) : RowB n r := by
  obtain ⟨zf, hzf⟩ := Classical.axiomOfChoice h
  refine ⟨d, (List.range r.length).map zf, hd, hdn, fun x hx => ?_, ?_⟩
  · obtain ⟨k, _, rfl⟩ := List.mem_map.mp hx
    exact (hzf k).1
  · refine ext_getD (d := (0, 1)) (by rw [List.length_map, List.length_map, List.length_range]) fun k hk => ?_
    rw [List.map_map, map_getD (d := 0) (by rw [List.length_range]; exact hk), getD_of (l := List.range _) (by rw [List.length_range]; exact hk), List.getElem_range]
    exact val_is (g.at k) hd (hzf k).2
theorem two_B (T : Two w subs cls rows) (hg : ∀ r ∈ rows, Good w r) (hw : w ≤ 16) (c : Nat) (hc : c ≤ w) :
    (∀ x ∈ ((List.range c).foldl pStep ([], rows)).1, RowB 80 x.2) ∧ (∀ r ∈ ((List.range c).foldl pStep ([], rows)).2, RowB 80 r) := by
  have I := fold_inv hg c hc
  obtain ⟨U, E⟩ := fold_E hg c hc
  generalize (List.range c).foldl pStep ([], rows) = s at *
  have hl : (dualOf s).length ≤ 16 := by
    have h := nodup_lt (k := w) (l := (dualOf s).map (·.1)) E.dual.nd fun y hy => by
      obtain ⟨x, hx, rfl⟩ := List.mem_map.mp hy
      obtain ⟨z, hz, rfl⟩ := List.mem_map.mp hx
      exact Nat.lt_of_lt_of_le (I.done z hz).1 hc
    rw [List.length_map] at h
    omega
  obtain ⟨d, hd, hdn, hz⟩ := two_small T E.used E.dual hl
  refine ⟨fun x hx => ?_, fun r hr => ?_⟩
  · refine rowB_of (I.done x hx).2.1 hd (lt_mono hdn (by decide)) fun k => ?_
    obtain ⟨z, h1, h2⟩ := hz (x.1, vec x.2) (List.mem_map.mpr ⟨x, hx, rfl⟩) k
    exact ⟨z, lt_mono h1 (by decide), h2⟩
  · refine rowB_of (I.rest r hr).1 hd (lt_mono hdn (by decide)) fun k => ?_
    obtain ⟨o, ho, eo⟩ := E.rest r hr
    have hent : ∀ k, ∃ c : Int, c.natAbs < 2 ^ 2 ∧ vec o k = (c : Rat) := fun k => by
      have p2 : (2 : Nat) ^ 2 = 4 := by decide
      rcases T.kinds o ho with ⟨u, hu, e⟩ | ⟨j, i, hi, hj, e⟩
      · have := T.small u hu k
        exact ⟨u k, by omega, by rw [e]; rfl⟩
      · rw [e]
        dsimp only
        split
        · exact ⟨1, by decide, rfl⟩
        · exact ⟨0, by decide, rfl⟩
    have hint : ∀ x ∈ dualOf s, ∃ z : Int, z.natAbs < 2 ^ 69 ∧ vec o x.1 * x.2 k * (d : Rat) = (z : Rat) := fun x hx => by
      obtain ⟨z, h1, h2⟩ := hz x hx k
      obtain ⟨c, h3, h4⟩ := hent x.1
      refine ⟨c * z, lt_mono (lt_mul h3 h1) (by decide), ?_⟩
      rw [Rat.intCast_mul, ← h2, ← h4]
      grind
    obtain ⟨z, hz1, hz2⟩ := sum_int hint
    have hz3 : z.natAbs ≤ 16 * 2 ^ 69 := Nat.le_trans hz1 (Nat.mul_le_mul_right _ hl)
    obtain ⟨c, h3, h4⟩ := hent k
    have h5 := lt_mono (lt_mul h3 hdn) (show 2 + 62 ≤ 69 by decide)
    have p80 : (2 : Nat) ^ 80 = 2048 * 2 ^ 69 := by decide
    refine ⟨c * d - z, ?_, ?_⟩
    · rw [p80]
      generalize (2 : Nat) ^ 69 = B at *
      omega
    · rw [eo k, Rat.intCast_sub, Rat.intCast_mul, ← hz2, ← h4]
      unfold expand
      grind
end
end Sl

/-! How the mixtures hang together: ways between mixtures, classes, hidden rows, pairs. -/
namespace Sl
open Kp340 Kp341 Kp342 Kp343
abbrev Step := Mix × Mix
def stepsF (rules : List Rule) : List Step := rules.map fun r => (r.left, r.right)
def stepsB (rules : List Rule) : List Step := stepsF rules ++ rules.map fun r => (r.right, r.left)
inductive MPath (a : List Step) : Mix → Mix → Prop
  | refl (x : Mix) : MPath a x x
  | step {x y z : Mix} : MPath a x y → (y, z) ∈ a → MPath a x z
/-- a list of all that's come to -/
def Comes (a : List Step) (x : Mix) (l : List Mix) : Prop := (∀ y, y ∈ l ↔ MPath a x y) ∧ l.length ≤ 1 + a.length
theorem sub_len {α : Type} [BEq α] [LawfulBEq α] : ∀ (m : List α), m.Nodup → ∀ (n : List α), (∀ y ∈ m, y ∈ n) → m.length ≤ n.length := by
  intro m
  induction m with
  | nil => intro _ n _; exact Nat.zero_le _
  | cons x m ih =>
    intro nd n hn
    have hx := hn x List.mem_cons_self
    have nd' := List.pairwise_cons.mp nd
    have := ih nd'.2 (n.erase x) fun y hy => by
      have hne : y ≠ x := fun e => nd'.1 y hy e.symm
      exact (List.mem_erase_of_ne hne).mpr (hn y (List.mem_cons_of_mem _ hy))
    rw [List.length_erase_of_mem hx] at this
    have hp : 0 < n.length := List.length_pos_of_mem hx
    rw [List.length_cons]
    omega
/-- what's found so far, closed as far as place p -/
structure Found (a : List Step) (x : Mix) (l : List Mix) (p : Nat) : Prop where
  start : x ∈ l
  nd : l.Nodup
  way : ∀ y ∈ l, MPath a x y
  upto : ∀ i, i < p → ∀ s ∈ a, s.1 = l.getD i [] → s.2 ∈ l
  le : p ≤ l.length
theorem Found.len {a : List Step} {x : Mix} {l : List Mix} {p : Nat} (F : Found a x l p) : l.length ≤ 1 + a.length := by
  have h := sub_len l F.nd (x :: a.map (·.2)) fun y hy => by
    have := F.way y hy
    cases this with
    | refl => exact List.mem_cons_self
    | step _ h => exact List.mem_cons_of_mem _ (List.mem_map.mpr ⟨_, h, rfl⟩)
  rw [List.length_cons, List.length_map] at h
  omega
theorem Found.comes {a : List Step} {x : Mix} {l : List Mix} {p : Nat} (F : Found a x l p) (h : l.length ≤ p) : Comes a x l := by
  refine ⟨fun y => ⟨F.way y, fun m => ?_⟩, F.len⟩
  induction m with
  | refl => exact F.start
  | step _ hs ih =>
    obtain ⟨i, hi, e⟩ := List.mem_iff_getElem.mp ih
    refine F.upto i (by omega) _ hs ?_
    show _ = l.getD i []
    rw [getD_of hi, e]
theorem Found.init (a : List Step) (x : Mix) : Found a x [x] 0 := ⟨List.mem_singleton.mpr rfl, List.pairwise_singleton _ _, fun y hy => by rw [List.mem_singleton.mp hy]; exact .refl x, fun i hi => absurd hi (Nat.not_lt_zero i), Nat.zero_le _⟩
/-- within a round at place p: the first k steps are done -/
structure FoundK (a : List Step) (x : Mix) (l : List Mix) (p k : Nat) : Prop where
  base : Found a x l p
  lt : p < l.length
  done : ∀ j, j < k → ∀ s, a[j]? = some s → s.1 = l.getD p [] → s.2 ∈ l
theorem FoundK.init {a : List Step} {x : Mix} {l : List Mix} {p : Nat} (F : Found a x l p) (h : p < l.length) : FoundK a x l p 0 := ⟨F, h, fun j hj => absurd hj (Nat.not_lt_zero j)⟩
theorem FoundK.skip {a : List Step} {x : Mix} {l : List Mix} {p k : Nat} {s : Step} (F : FoundK a x l p k) (hs : a[k]? = some s) (h : ¬ (s.1 = l.getD p [] ∧ s.2 ∉ l)) : FoundK a x l p (k + 1) := by
  refine ⟨F.base, F.lt, fun j hj t ht e => ?_⟩
  by_cases z : j = k
  · subst z
    rw [hs] at ht
    cases ht
    exact Classical.byContradiction fun n => h ⟨e, n⟩
  · exact F.done j (by omega) t ht e
theorem FoundK.put {a : List Step} {x : Mix} {l : List Mix} {p k : Nat} {s : Step} (F : FoundK a x l p k) (hs : a[k]? = some s) (h1 : s.1 = l.getD p []) (h2 : s.2 ∉ l) : FoundK a x (l ++ [s.2]) p (k + 1) := by
  have gd : ∀ i, i < l.length → (l ++ [s.2]).getD i [] = l.getD i [] := fun i hi => by
    rw [getD_of (by rw [List.length_append]; omega), getD_of hi, List.getElem_append_left hi]
  have hsm : s ∈ a := List.mem_of_getElem? hs
  refine ⟨⟨List.mem_append_left _ F.base.start, ?_, fun y hy => ?_, fun i hi t ht e => ?_, ?_⟩, ?_, fun j hj t ht e => ?_⟩
  · refine List.nodup_append.mpr ⟨F.base.nd, List.pairwise_singleton _ _, fun u hu v hv e => ?_⟩
    rw [List.mem_singleton.mp hv] at e
    exact h2 (e ▸ hu)
  · rcases List.mem_append.mp hy with hy | hy
    · exact F.base.way y hy
    · rw [List.mem_singleton.mp hy]
      refine .step (F.base.way (l.getD p []) (mem_getD F.lt)) ?_
      rw [← h1]
      exact hsm
  · have := F.base.le
    rw [gd i (by omega)] at e
    exact List.mem_append_left _ (F.base.upto i hi t ht e)
  · have := F.base.le
    rw [List.length_append]
    omega
  · have := F.lt
    rw [List.length_append]
    omega
  · rw [gd p F.lt] at e
    by_cases z : j = k
    · subst z
      rw [hs] at ht
      cases ht
      exact List.mem_append_right _ (List.mem_singleton.mpr rfl)
    · exact List.mem_append_left _ (F.done j (by omega) t ht e)
theorem FoundK.fin {a : List Step} {x : Mix} {l : List Mix} {p : Nat} (F : FoundK a x l p a.length) : Found a x l (p + 1) := by
  refine ⟨F.base.start, F.base.nd, F.base.way, fun i hi s hs e => ?_, F.lt⟩
  by_cases z : i = p
  · subst z
    obtain ⟨j, hj, rfl⟩ := List.mem_iff_getElem.mp hs
    exact F.done j hj _ (List.getElem?_eq_getElem hj) e
  · exact F.base.upto i (by omega) s hs e
/-! ### ways between mixtures and between their numbers -/
theorem at_place {m : Net} {x : Mix} (h : x ∈ mixtures m) : mixAt m (placeOf m x) = x := (idx_mem h).2 []
theorem place_at {m : Net} {i : Nat} (h : i < (mixtures m).length) : placeOf m (mixAt m i) = i := by
  unfold placeOf mixAt
  rw [getD_of h]
  exact idx_nodup (mix_nodup m) h
theorem mixAt_inj {m : Net} {i j : Nat} (hi : i < (mixtures m).length) (hj : j < (mixtures m).length) (e : mixAt m i = mixAt m j) : i = j := by
  rw [← place_at hi, ← place_at hj, e]
/-- steps of mixtures and arrows of numbers that tell the same -/
structure Tells (m : Net) (a : List Step) (b : List (Nat × Nat)) : Prop where
  to : ∀ s ∈ a, s.1 ∈ mixtures m ∧ s.2 ∈ mixtures m ∧ (placeOf m s.1, placeOf m s.2) ∈ b
  fro : ∀ x ∈ b, x.1 < (mixtures m).length ∧ x.2 < (mixtures m).length ∧ (mixAt m x.1, mixAt m x.2) ∈ a
theorem tells_F (m : Net) : Tells m (stepsF m.rules) (arrows m) := by
  refine ⟨fun s hs => ?_, fun x hx => ?_⟩
  · obtain ⟨r, hr, rfl⟩ := List.mem_map.mp hs
    exact ⟨mem_mix.mpr ⟨r, hr, .inl rfl⟩, mem_mix.mpr ⟨r, hr, .inr rfl⟩, List.mem_map.mpr ⟨r, hr, rfl⟩⟩
  · obtain ⟨h1, h2⟩ := arrows_lt m x hx
    refine ⟨h1, h2, ?_⟩
    obtain ⟨r, hr, rfl⟩ := List.mem_map.mp hx
    refine List.mem_map.mpr ⟨r, hr, ?_⟩
    show (r.left, r.right) = (mixAt m (placeOf m r.left), mixAt m (placeOf m r.right))
    rw [at_place (mem_mix.mpr ⟨r, hr, .inl rfl⟩), at_place (mem_mix.mpr ⟨r, hr, .inr rfl⟩)]
theorem tells_B (m : Net) : Tells m (stepsB m.rules) (both m) := by
  have T := tells_F m
  have hB : ∀ s, s ∈ stepsB m.rules ↔ s ∈ stepsF m.rules ∨ (s.2, s.1) ∈ stepsF m.rules := fun s => by
    unfold stepsB
    rw [List.mem_append]
    refine or_congr Iff.rfl ?_
    constructor
    · intro h
      obtain ⟨r, hr, rfl⟩ := List.mem_map.mp h
      exact List.mem_map.mpr ⟨r, hr, rfl⟩
    · intro h
      obtain ⟨r, hr, e⟩ := List.mem_map.mp h
      refine List.mem_map.mpr ⟨r, hr, ?_⟩
      obtain ⟨s1, s2⟩ := s
      injection e with e1 e2
      rw [e1, e2]
  have hb : ∀ x, x ∈ both m ↔ x ∈ arrows m ∨ (x.2, x.1) ∈ arrows m := fun x => by
    unfold both
    rw [List.mem_append]
    refine or_congr Iff.rfl ?_
    constructor
    · intro h
      obtain ⟨r, hr, rfl⟩ := List.mem_map.mp h
      exact hr
    · intro h
      exact List.mem_map.mpr ⟨_, h, rfl⟩
  refine ⟨fun s hs => ?_, fun x hx => ?_⟩
  · rcases (hB s).mp hs with h | h
    · obtain ⟨a, b, c⟩ := T.to s h
      exact ⟨a, b, (hb _).mpr (.inl c)⟩
    · obtain ⟨a, b, c⟩ := T.to _ h
      exact ⟨b, a, (hb _).mpr (.inr c)⟩
  · rcases (hb x).mp hx with h | h
    · obtain ⟨a, b, c⟩ := T.fro x h
      exact ⟨a, b, (hB _).mpr (.inl c)⟩
    · obtain ⟨a, b, c⟩ := T.fro _ h
      exact ⟨b, a, (hB _).mpr (.inr c)⟩
theorem mpath_of {m : Net} {a : List Step} {b : List (Nat × Nat)} (T : Tells m a b) {i j : Nat} (p : Path b i j) : MPath a (mixAt m i) (mixAt m j) := by
  induction p with
  | refl => exact .refl _
  | step _ h ih => exact .step ih (T.fro _ h).2.2
theorem path_of {m : Net} {a : List Step} {b : List (Nat × Nat)} (T : Tells m a b) {i : Nat} (hi : i < (mixtures m).length) {y : Mix} (p : MPath a (mixAt m i) y) : ∃ j, j < (mixtures m).length ∧ mixAt m j = y ∧ Path b i j := by
  induction p with
  | refl => exact ⟨i, hi, rfl, .refl i⟩
  | step _ h ih =>
    obtain ⟨j, hj, e, q⟩ := ih
    obtain ⟨h1, h2, h3⟩ := T.to _ h
    refine ⟨placeOf m _, place_lt h2, at_place h2, .step q ?_⟩
    have : placeOf m (mixAt m j) = j := place_at hj
    rw [e] at this
    dsimp only at h3
    rw [this] at h3
    exact h3
theorem mpath_iff {m : Net} {a : List Step} {b : List (Nat × Nat)} (T : Tells m a b) {i j : Nat} (hi : i < (mixtures m).length) (hj : j < (mixtures m).length) : MPath a (mixAt m i) (mixAt m j) ↔ Path b i j := by
  refine ⟨fun p => ?_, mpath_of T⟩
  obtain ⟨k, hk, e, q⟩ := path_of T hi p
  rw [mixAt_inj hk hj e] at q
  exact q
/-- what stays, by ways between mixtures -/
theorem ending_iff {m : Net} {i : Nat} (hi : i < (mixtures m).length) : ending m i = true ↔ ∀ y, MPath (stepsF m.rules) (mixAt m i) y → MPath (stepsF m.rules) y (mixAt m i) := by
  unfold ending
  rw [List.all_eq_true]
  constructor
  · intro h y p
    obtain ⟨j, hj, rfl, q⟩ := path_of (tells_F m) hi p
    have := h j (List.mem_range.mpr hj)
    rw [(comes_iff hi).mpr q] at this
    have h2 : comesTo m j i = true := by simpa using this
    exact mpath_of (tells_F m) ((comes_iff hj).mp h2)
  · intro h j hj
    have hj := List.mem_range.mp hj
    by_cases hc : comesTo m i j = true
    · have := h _ (mpath_of (tells_F m) ((comes_iff hi).mp hc))
      have := (comes_iff hj).mpr ((mpath_iff (tells_F m) hj hi).mp this)
      rw [this, Bool.or_true]
    · rw [Bool.eq_false_iff.mpr hc]
      rfl
/-! ### classes -/
theorem find_range {n : Nat} {p : Nat → Bool} {k : Nat} (hk : k < n) (hp : p k = true) (hn : ∀ j, j < k → p j = false) : (List.range n).find? p = some k := by
  rw [List.find?_range_eq_some]
  exact ⟨hp, List.mem_range.mpr hk, fun j hj => by rw [hn j hj]; rfl⟩
theorem joined_refl {m : Net} {i : Nat} (hi : i < (mixtures m).length) : joined m i i = true := (joined_iff hi).mpr (.refl i)
/-- the class: the first one that's joined -/
theorem class_first {m : Net} {i : Nat} (hi : i < (mixtures m).length) : classOf m i ≤ i ∧ joined m i (classOf m i) = true ∧ ∀ j, j < classOf m i → joined m i j = false := by
  unfold classOf
  cases e : (List.range (mixtures m).length).find? fun j => joined m i j with
  | none =>
    have := List.find?_eq_none.mp e i (List.mem_range.mpr hi)
    exact absurd (joined_refl hi) this
  | some k =>
    obtain ⟨h1, h2, h3⟩ := List.find?_range_eq_some.mp e
    refine ⟨?_, h1, fun j hj => by have := h3 j hj; simpa using this⟩
    rcases Nat.lt_or_ge i k with h | h
    · have := h3 i h
      rw [joined_refl hi] at this
      cases this
    · exact h
theorem joined_class {m : Net} {i j : Nat} (hi : i < (mixtures m).length) (hj : j < (mixtures m).length) : joined m i j = true ↔ classOf m i = classOf m j := by
  obtain ⟨a1, a2, a3⟩ := class_first hi
  obtain ⟨b1, b2, b3⟩ := class_first hj
  have pi := (joined_iff hi).mp a2
  have pj := (joined_iff hj).mp b2
  constructor
  · intro h
    have p := (joined_iff hi).mp h
    have h1 : joined m j (classOf m i) = true := (joined_iff hj).mpr (p.sym.trans pi)
    have h2 : joined m i (classOf m j) = true := (joined_iff hi).mpr (p.trans pj)
    rcases Nat.lt_trichotomy (classOf m i) (classOf m j) with h | h | h
    · have := b3 _ h
      rw [h1] at this
      cases this
    · exact h
    · have := a3 _ h
      rw [h2] at this
      cases this
  · intro h
    rw [← h] at pj
    exact (joined_iff hi).mpr (pi.trans pj.sym)
theorem class_idem {m : Net} {i : Nat} (hi : i < (mixtures m).length) : classOf m (classOf m i) = classOf m i := by
  obtain ⟨a1, a2, a3⟩ := class_first hi
  exact ((joined_class hi (by omega)).mp a2).symm
/-- a list of the mixtures of a class -/
def IsClass (m : Net) (c : Nat) (l : List Mix) : Prop := (∀ i, i < (mixtures m).length → (mixAt m i ∈ l ↔ classOf m i = c)) ∧ l.length ≤ 17
def repsTo (m : Net) (k : Nat) : List Nat := (List.range k).filter fun c => classOf m c == c
inductive Classes (m : Net) : List Nat → List (List Mix) → Prop
  | nil : Classes m [] []
  | cons {c : Nat} {l : List Mix} {cs : List Nat} {ls : List (List Mix)} : IsClass m c l → Classes m cs ls → Classes m (c :: cs) (l :: ls)
theorem Classes.app {m : Net} {cs : List Nat} {ls : List (List Mix)} {c : Nat} {l : List Mix} (h : Classes m cs ls) (i : IsClass m c l) : Classes m (cs ++ [c]) (ls ++ [l]) := by
  induction h with
  | nil => exact .cons i .nil
  | cons a _ ih => exact .cons a ih
theorem Classes.len {m : Net} {cs : List Nat} {ls : List (List Mix)} (h : Classes m cs ls) : ls.length = cs.length := by
  induction h with
  | nil => rfl
  | cons _ _ ih => rw [List.length_cons, List.length_cons, ih]
theorem comes_class {m : Net} (h8 : m.rules.length ≤ 8) {k : Nat} (hk : k < (mixtures m).length) (hc : classOf m k = k) {l : List Mix} (h : Comes (stepsB m.rules) (mixAt m k) l) : IsClass m k l := by
  refine ⟨fun i hi => ?_, ?_⟩
  · rw [h.1, mpath_iff (tells_B m) hk hi, ← joined_iff hk, joined_class hk hi, hc]
    exact eq_comm
  · have := h.2
    unfold stepsB stepsF at this
    rw [List.length_append, List.length_map, List.length_map] at this
    omega
/-- which are placed before the k-th -/
def Placed (m : Net) (k : Nat) (l : List Mix) : Prop := (∀ i, i < (mixtures m).length → (mixAt m i ∈ l ↔ classOf m i < k)) ∧ l.length ≤ 17 * k
theorem placed_zero (m : Net) : Placed m 0 [] := ⟨fun i _ => by simp, Nat.zero_le _⟩
theorem placed_at {m : Net} {k : Nat} {l : List Mix} (hk : k < (mixtures m).length) (P : Placed m k l) : mixAt m k ∈ l ↔ classOf m k ≠ k := by
  rw [P.1 k hk]
  have := (class_first hk).1
  omega
theorem placed_skip {m : Net} {k : Nat} {l : List Mix} (hk : k < (mixtures m).length) (P : Placed m k l) (h : classOf m k ≠ k) : Placed m (k + 1) l ∧ repsTo m (k + 1) = repsTo m k := by
  refine ⟨⟨fun i hi => ?_, by have := P.2; omega⟩, ?_⟩
  · rw [P.1 i hi]
    have : classOf m i ≠ k := fun e => h (by
      have := class_idem hi
      rw [e] at this
      exact this)
    omega
  · unfold repsTo
    rw [List.range_succ, List.filter_append, List.filter_cons, beq_eq_false_iff_ne.mpr h]
    simp
theorem placed_put {m : Net} {k : Nat} {l ms : List Mix} (hk : k < (mixtures m).length) (P : Placed m k l) (h : classOf m k = k) (C : IsClass m k ms) : Placed m (k + 1) (l ++ ms) ∧ repsTo m (k + 1) = repsTo m k ++ [k] := by
  refine ⟨⟨fun i hi => ?_, ?_⟩, ?_⟩
  · rw [List.mem_append, P.1 i hi, C.1 i hi]
    omega
  · have := P.2
    have := C.2
    rw [List.length_append]
    omega
  · unfold repsTo
    rw [List.range_succ, List.filter_append, List.filter_cons, h, beq_self_eq_true]
    rfl
/-! ### hidden rows -/
def subRow (m : Net) (s : Nat) : Row := (mixtures m).map fun x => (((x.getD s 0 : Nat) : Int), (1 : Int))
def clsRow (m : Net) (c : Nat) : Row := (List.range (mixtures m).length).map fun i => if classOf m i = c then (1, 1) else (0, 1)
def condsTo (m : Net) (s : Nat) (cs : List Nat) : List Row := (List.range s).map (subRow m) ++ cs.map (clsRow m)
theorem conds_is (m : Net) : conds m = condsTo m m.n (repsTo m (mixtures m).length) := rfl
theorem subRow_good (m : Net) (s : Nat) : Good (mixtures m).length (subRow m s) := by
  refine ⟨by unfold subRow; rw [List.length_map], fun x hx => ?_⟩
  obtain ⟨y, _, rfl⟩ := List.mem_map.mp hx
  exact okI _
theorem clsRow_good (m : Net) (c : Nat) : Good (mixtures m).length (clsRow m c) := by
  refine ⟨by unfold clsRow; rw [List.length_map, List.length_range], fun x hx => ?_⟩
  obtain ⟨y, _, rfl⟩ := List.mem_map.mp hx
  split
  · exact ok11
  · exact ok01
theorem conds_good (m : Net) : ∀ r ∈ conds m, Good (mixtures m).length r := by
  rw [conds_is]
  intro r hr
  rcases List.mem_append.mp hr with h | h
  · obtain ⟨s, _, rfl⟩ := List.mem_map.mp h
    exact subRow_good m s
  · obtain ⟨c, _, rfl⟩ := List.mem_map.mp h
    exact clsRow_good m c
def subI (m : Net) (s : Nat) : Nat → Int := fun k => (((mixAt m k).getD s 0 : Nat) : Int)
theorem mix_small {m : Net} (h : NetOk m) {x : Mix} (hx : x ∈ mixtures m) (s : Nat) : x.getD s 0 ≤ 3 := by
  have q : ∀ l : List Nat, (∀ x ∈ l, x ≤ 3) → l.getD s 0 ≤ 3 := fun l hl => by
    by_cases hc : s < l.length
    · exact hl _ (mem_getD hc)
    · rw [getD_out (by omega)]; omega
  obtain ⟨r, hr, e⟩ := mem_mix.mp hx
  have o := (h.each r hr).small
  rcases e with rfl | rfl
  · exact q _ o.1
  · exact q _ o.2
theorem conds_two {m : Net} (h : NetOk m) : Two (mixtures m).length ((List.range m.n).map (subI m)) (classOf m) (conds m) := by
  refine ⟨by rw [List.length_map, List.length_range]; exact h.n.2, fun u hu k => ?_, fun r hr => ?_⟩
  · obtain ⟨s, _, rfl⟩ := List.mem_map.mp hu
    unfold subI
    by_cases hk : k < (mixtures m).length
    · have := mix_small h (x := mixAt m k) (mem_getD hk) s
      omega
    · unfold mixAt
      rw [getD_out (l := mixtures m) (by omega)]
      show (0 : Int) ≤ ((0 : Nat) : Int) ∧ ((0 : Nat) : Int) ≤ 3
      omega
  · rw [conds_is] at hr
    rcases List.mem_append.mp hr with h | h
    · obtain ⟨s, hs, rfl⟩ := List.mem_map.mp h
      refine .inl ⟨subI m s, List.mem_map.mpr ⟨s, hs, rfl⟩, funext fun k => ?_⟩
      show val ((subRow m s).getD k (0, 1)) = _
      unfold subRow cast subI mixAt
      by_cases hk : k < (mixtures m).length
      · rw [map_getD (d := []) hk, valI]
      · rw [getD_out (by rw [List.length_map]; omega), getD_out (l := mixtures m) (by omega), val01]
        rfl
    · obtain ⟨c, hc, rfl⟩ := List.mem_map.mp h
      obtain ⟨hc1, hc2⟩ := List.mem_filter.mp hc
      refine .inr ⟨c, c, List.mem_range.mp hc1, beq_iff_eq.mp hc2, funext fun k => ?_⟩
      show val ((clsRow m c).getD k (0, 1)) = _
      unfold clsRow
      by_cases hk : k < (mixtures m).length
      · rw [map_getD (d := 0) (by rw [List.length_range]; exact hk), getD_of (l := List.range _) (by rw [List.length_range]; exact hk), List.getElem_range]
        by_cases e : classOf m k = c
        · rw [if_pos e, if_pos ⟨hk, e⟩, val11]
        · rw [if_neg e, if_neg (fun z => e z.2), val01]
      · rw [getD_out (by rw [List.length_map, List.length_range]; omega), if_neg (fun z => hk z.1), val01]
theorem mixes16 {m : Net} (h : NetOk m) : (mixtures m).length ≤ 16 := by
  have := mix_len m
  have := h.few
  omega
theorem conds_B {m : Net} (h : NetOk m) (c : Nat) (hc : c ≤ (mixtures m).length) :
    (∀ x ∈ ((List.range c).foldl pStep ([], conds m)).1, RowB 80 x.2) ∧ (∀ r ∈ ((List.range c).foldl pStep ([], conds m)).2, RowB 80 r) := two_B (conds_two h) (conds_good m) (mixes16 h) c hc
/-- how many are not in a rising list -/
theorem count_out {w : Nat} : ∀ {l : List Nat}, l.Nodup → (∀ x ∈ l, x < w) → ((List.range w).filter fun c => !l.contains c).length + l.length = w := by
  intro l nd hl
  have h1 : ((List.range w).filter fun c => l.contains c).length = l.length := by
    refine Nat.le_antisymm ?_ ?_
    · exact sub_len _ (List.Pairwise.filter _ List.nodup_range) l fun y hy => List.contains_iff_mem.mp (List.mem_filter.mp hy).2
    · exact sub_len l nd _ fun y hy => List.mem_filter.mpr ⟨List.mem_range.mpr (hl y hy), List.contains_iff_mem.mpr hy⟩
  have h2 : ∀ (p : Nat → Bool) (k : List Nat), (k.filter fun c => !p c).length + (k.filter p).length = k.length := by
    intro p k
    induction k with
    | nil => rfl
    | cons x k ih =>
      rw [List.filter_cons, List.filter_cons]
      cases p x
      · show (k.filter fun c => !p c).length + 1 + (k.filter p).length = k.length + 1
        omega
      · show (k.filter fun c => !p c).length + ((k.filter p).length + 1) = k.length + 1
        omega
  have := h2 (fun c => l.contains c) (List.range w)
  rw [h1, List.length_range] at this
  exact this
theorem hidden_len (m : Net) : (hidden m).length + (plain (mixtures m).length (conds m)).length = (mixtures m).length := by
  unfold hidden free
  dsimp only
  rw [List.length_map, List.length_map]
  obtain ⟨hp, up⟩ := plain_inv (conds_good m)
  have := count_out (w := (mixtures m).length) (pw_nodup up) fun x hx => by
    obtain ⟨y, hy, rfl⟩ := List.mem_map.mp hx
    exact (hp y hy).1
  rw [List.length_map] at this
  have ec : ∀ c, ((plain (mixtures m).length (conds m)).map (·.1)).contains c = (plain (mixtures m).length (conds m)).any fun x => x.1 == c := fun c => by
    rw [List.contains_eq_any_beq, List.any_map]
    refine congrArg _ (funext fun x => ?_)
    show (c == x.1) = (x.1 == c)
    exact Bool.beq_comm
  refine Eq.trans (congrArg (· + (plain (mixtures m).length (conds m)).length) (congrArg List.length ?_)) this
  refine congrArg (fun f => List.filter f (List.range (mixtures m).length)) (funext fun c => ?_)
  rw [ec]
theorem hidden_is (m : Net) : ((hidden m).length : Int) = ((mixtures m).length : Int) - ((relationsAmong (conds m) (mixtures m).length).length : Int) := by
  rw [among_is (conds_good m), List.length_map]
  have := hidden_len m
  omega
/-! ### pairs -/
def moreOf (a b : Mix) : Option Nat := (List.range a.length).find? fun s => decide (0 < moreBy a b s)
theorem moreOf_is {m : Net} {i j : Nat} (hl : (mixAt m i).length = m.n) : moreOf (mixAt m i) (mixAt m j) = match butOne m i j with
    | some (s, e) => if 0 < e then some s else none
    | none => none := by
  unfold moreOf
  rw [hl]
  have key : ∀ s, s < m.n → (0 < moreBy (mixAt m i) (mixAt m j) s ↔ ∃ e, butOne m i j = some (s, e) ∧ 0 < e) := fun s hs => by
    obtain ⟨k1, k2⟩ := butOne_is (m := m) (i := i) (j := j) hs hl
    exact ⟨fun h => ⟨_, k2 h, h⟩, fun ⟨e, h, he⟩ => by rw [k1 e h he]; exact he⟩
  have slt : ∀ s e, butOne m i j = some (s, e) → s < m.n := fun s e h => by
    unfold butOne at h
    dsimp only at h
    split at h
    · rename_i t ht
      cases h
      have : s ∈ (List.range m.n).filter fun s_1 => (((List.range m.n).map fun s => ((mixAt m i).getD s 0 : Int) - ((mixAt m j).getD s 0 : Int)).getD s_1 0 != 0) := by
        rw [ht]
        exact List.mem_singleton.mpr rfl
      exact List.mem_range.mp (List.mem_filter.mp this).1
    · cases h
  split
  · rename_i s e he
    by_cases hp : 0 < e
    · rw [if_pos hp]
      refine find_range (slt s e he) (decide_eq_true ((key s (slt s e he)).mpr ⟨e, he, hp⟩)) fun j' hj' => ?_
      refine decide_eq_false fun z => ?_
      obtain ⟨e', h', _⟩ := (key j' (by have := slt s e he; omega)).mp z
      rw [he] at h'
      injection h' with h'
      injection h' with h1 h2
      omega
    · rw [if_neg hp]
      refine List.find?_eq_none.mpr fun s' hs' => ?_
      rw [decide_eq_true_eq]
      intro z
      obtain ⟨e', h', hp'⟩ := (key s' (List.mem_range.mp hs')).mp z
      rw [he] at h'
      injection h' with h'
      injection h' with h1 h2
      subst h2
      exact hp hp'
  · rename_i he
    refine List.find?_eq_none.mpr fun s' hs' => ?_
    rw [decide_eq_true_eq]
    intro z
    obtain ⟨e', h', hp'⟩ := (key s' (List.mem_range.mp hs')).mp z
    rw [he] at h'
    cases h'
def leavingP (m : Net) : List Nat := (List.range (mixtures m).length).filter fun i => !((List.range (mixtures m).length).filter (ending m)).contains i
def pairRow (m : Net) (i : Nat) (js : List Nat) : List (Nat × Nat × Nat) := js.filterMap fun j => (moreOf (mixAt m i) (mixAt m j)).map fun s => (s, i, j)
def pairsP (m : Net) (is : List Nat) : List (Nat × Nat × Nat) := is.flatMap fun i => pairRow m i (leavingP m)
theorem leaving_is (m : Net) : leavingP m = (List.range (mixtures m).length).filter fun i => !ending m i := by
  unfold leavingP
  refine List.filter_congr fun i hi => ?_
  refine congrArg (!·) ?_
  by_cases h : ending m i = true
  · rw [h]
    exact List.contains_iff_mem.mpr (List.mem_filter.mpr ⟨hi, h⟩)
  · rw [Bool.eq_false_iff.mpr h, Bool.eq_false_iff]
    exact fun z => h (List.mem_filter.mp (List.contains_iff_mem.mp z)).2
theorem flat_congr {α β : Type} {f g : α → List β} : ∀ {l : List α}, (∀ x ∈ l, f x = g x) → l.flatMap f = l.flatMap g
  | [], _ => rfl
  | x :: l, h => by
    rw [List.flatMap_cons, List.flatMap_cons, h x List.mem_cons_self, flat_congr fun y hy => h y (List.mem_cons_of_mem _ hy)]
theorem leaving_lt {m : Net} {i : Nat} (h : i ∈ leavingP m) : i < (mixtures m).length := List.mem_range.mp (List.mem_filter.mp h).1
theorem pairs_is {m : Net} (h : NetOk m) (h1 : (hidden m).length = 1) : pairsOf m = pairsP m (leavingP m) := by
  unfold pairsOf pairsP
  rw [if_neg (fun z => z h1)]
  have hl : leavingP m = _ := leaving_is m
  have fm : ∀ {α β : Type} (p : α → Bool) (f : α → List β) (l : List α), (∀ x ∈ l, p x = false → f x = []) → l.flatMap f = (l.filter p).flatMap f := by
    intro α β p f l
    induction l with
    | nil => intro _; rfl
    | cons x l ih =>
      intro hx
      rw [List.flatMap_cons, ih fun y hy => hx y (List.mem_cons_of_mem _ hy), List.filter_cons]
      by_cases hp : p x = true
      · rw [if_pos hp, List.flatMap_cons]
      · rw [if_neg hp, hx x List.mem_cons_self (Bool.eq_false_iff.mpr hp)]
        rfl
  have gm : ∀ {α β : Type} (p : α → Bool) (f g : α → Option β) (l : List α), (∀ x ∈ l, p x = false → f x = none) → (∀ x ∈ l, p x = true → f x = g x) → l.filterMap f = (l.filter p).filterMap g := by
    intro α β p f g l
    induction l with
    | nil => intro _ _; rfl
    | cons x l ih =>
      intro hx hy
      have ih := ih (fun y h => hx y (List.mem_cons_of_mem _ h)) (fun y h => hy y (List.mem_cons_of_mem _ h))
      rw [List.filter_cons]
      by_cases hp : p x = true
      · rw [if_pos hp, List.filterMap_cons, List.filterMap_cons, hy x List.mem_cons_self hp, ih]
      · rw [if_neg hp, List.filterMap_cons, hx x List.mem_cons_self (Bool.eq_false_iff.mpr hp), ih]
  rw [fm (fun i => !ending m i) _ (List.range (mixtures m).length) fun i _ hi => ?_, ← hl]
  · refine flat_congr fun i hi => ?_
    have hei : ending m i = false := by
      rw [hl] at hi
      have := (List.mem_filter.mp hi).2
      simpa using this
    have hlt := leaving_lt hi
    unfold pairRow
    rw [hl]
    refine gm (fun j => !ending m j) _ _ _ (fun j _ hj => ?_) (fun j _ hj => ?_)
    · have hj : ending m j = true := by simpa using hj
      rw [hj, Bool.or_true]
      rfl
    · have hj : ending m j = false := by simpa using hj
      rw [hei, hj, moreOf_is (mixAt_len h hlt)]
      show (match butOne m i j with
        | some (s, e) => if 0 < e then some (s, i, j) else none
        | none => none) = _
      split
      · split <;> rfl
      · rfl
  · have hi : ending m i = true := by simpa using hi
    refine List.filterMap_eq_nil_iff.mpr fun j _ => ?_
    rw [hi, Bool.true_or]
    rfl
theorem pairs_no {m : Net} (h1 : (hidden m).length ≠ 1) : pairsOf m = [] := by
  unfold pairsOf
  rw [if_pos h1]
theorem same_is (m : Net) : sameOf m = (List.range m.n).filter fun s => ((pairsOf m).map (·.1)).contains s := by
  unfold sameOf
  refine List.filter_congr fun s _ => ?_
  rw [List.contains_eq_any_beq, List.any_map]
  refine congrArg _ (funext fun x => ?_)
  show (x.1 == s) = (s == x.1)
  exact Bool.beq_comm
theorem filterMap_len {α β : Type} (f : α → Option β) (l : List α) : (l.filterMap f).length ≤ l.length := List.length_filterMap_le f l
theorem leaving_len (m : Net) : (leavingP m).length ≤ (mixtures m).length := by
  have := List.length_filter_le (fun i => !((List.range (mixtures m).length).filter (ending m)).contains i) (List.range (mixtures m).length)
  rw [List.length_range] at this
  exact this
theorem pairRow_len (m : Net) (i : Nat) (js : List Nat) : (pairRow m i js).length ≤ js.length := filterMap_len _ _
theorem pairsP_len {m : Net} (is : List Nat) : (pairsP m is).length ≤ is.length * (mixtures m).length := by
  unfold pairsP
  induction is with
  | nil => exact Nat.zero_le _
  | cons i is ih =>
    have h1 := pairRow_len m i (leavingP m)
    have h2 := leaving_len m
    rw [List.flatMap_cons, List.length_append, List.length_cons, Nat.succ_mul]
    omega
end Sl

/-! Points: weights, what's steady, what's met; and what the specification's step answers to the calls of stage 2. -/
namespace Sl
open Kp340 Kp341 Kp342 Kp343
def okPoint (n : Nat) (p : List Nat) : Bool := decide (p.length = 1 + n) && (decide (1 ≤ p.getD 0 0) && decide (p.getD 0 0 ≤ 60)) && (p.drop 1).all fun v => decide (1 ≤ v) && decide (v ≤ 1000)
theorem okPoint_is (m : Net) (p : List Nat) : okPlus m p = okPoint m.n p := by
  unfold okPlus okP okPoint
  cases p with
  | nil =>
    show (false && _) = (decide (0 = 1 + m.n) && _ && _)
    rw [decide_eq_false (by omega)]
    rfl
  | cons d x =>
    show (decide (1 ≤ d) && decide (d ≤ 60) && decide (x.length = m.n) && (x.all fun v => decide (v ≤ 1000)) && x.all fun v => decide (1 ≤ v)) = (decide (x.length + 1 = 1 + m.n) && (decide (1 ≤ d) && decide (d ≤ 60)) && x.all fun v => decide (1 ≤ v) && decide (v ≤ 1000))
    have e1 : decide (x.length + 1 = 1 + m.n) = decide (x.length = m.n) := decide_eq_decide.mpr (by omega)
    have e2 : (x.all fun v => decide (1 ≤ v) && decide (v ≤ 1000)) = ((x.all fun v => decide (1 ≤ v)) && x.all fun v => decide (v ≤ 1000)) := by
      induction x with
      | nil => rfl
      | cons a x ih =>
        have ih := ih (decide_eq_decide.mpr (by omega))
        rw [List.all_cons, List.all_cons, List.all_cons, ih]
        cases decide (1 ≤ a) <;> cases decide (a ≤ 1000) <;> simp
    rw [e1, e2]
    cases decide (1 ≤ d) <;> cases decide (d ≤ 60) <;> cases decide (x.length = m.n) <;> cases x.all (fun v => decide (v ≤ 1000)) <;> cases x.all (fun v => decide (1 ≤ v)) <;> rfl
structure PointOk (n : Nat) (p : List Nat) : Prop where
  len : p.length = 1 + n
  div : 1 ≤ p.getD 0 0 ∧ p.getD 0 0 ≤ 60
  nums : ∀ v ∈ p.drop 1, 1 ≤ v ∧ v ≤ 1000
theorem okPoint_ok {n : Nat} {p : List Nat} (h : okPoint n p = true) : PointOk n p := by
  unfold okPoint at h
  simp only [Bool.and_eq_true, decide_eq_true_eq] at h
  refine ⟨h.1.1, h.1.2, fun v hv => ?_⟩
  have := List.all_eq_true.mp h.2 v hv
  simpa using this
def amounts (p : List Nat) : List Fr := (p.drop 1).map fun (v : Nat) => fr (v : Int) ((p.getD 0 0 : Nat) : Int)
theorem amounts_at {n : Nat} {p : List Nat} (h : PointOk n p) {s : Nat} (hs : s < n) : (amounts p).getD s (0, 1) = coord p s := by
  unfold amounts coord
  have hl := h.len
  rw [map_getD (d := 0) (by rw [List.length_drop]; omega), getD_of (l := p.drop 1) (by rw [List.length_drop]; omega), List.getElem_drop, getD_of (l := p) (k := s + 1) (by omega), getD_of (l := p) (k := 0) (by omega), getD_of (l := p) (k := 0) (d := 1) (by omega)]
  congr 2
  congr 1
  omega
theorem amounts_len {n : Nat} {p : List Nat} (h : PointOk n p) : (amounts p).length = n := by
  unfold amounts
  rw [List.length_map, List.length_drop, h.len]
  omega
theorem amounts_small {n : Nat} {p : List Nat} (h : PointOk n p) : ∀ x ∈ amounts p, Ok x ∧ Small 10 x := by
  intro x hx
  obtain ⟨v, hv, rfl⟩ := List.mem_map.mp hx
  have h1 := h.nums v hv
  have h2 := h.div
  have h0 : ((p.getD 0 0 : Nat) : Int) ≠ 0 := by omega
  have p10 : (2 : Nat) ^ 10 = 1024 := by decide
  exact ⟨fr_ok _ _ h0, fr_small h0 (by omega) (by omega)⟩
/-! ### powers and weights -/
theorem pow_succ (x : Fr) (k : Nat) : powF x (k + 1) = mul (powF x k) x := by
  unfold powF prodF
  rw [List.replicate_succ', List.foldl_append]
  rfl
theorem pow_small {x : Fr} (o : Ok x) (s : Small 10 x) : ∀ k, Ok (powF x k) ∧ Small (10 * k + 1) (powF x k)
  | 0 => ⟨ok11, small11⟩
  | k + 1 => by
    obtain ⟨a, b⟩ := pow_small o s k
    rw [pow_succ]
    exact ⟨mul_ok a o, (mul_small a o b s).mono (by omega)⟩
def weightTo (as : List Fr) (x : Mix) (k : Nat) : Fr := ((List.range k).map fun i => powF (as.getD i (0, 1)) (x.getD i 0)).foldl mul (1, 1)
def weightP (as : List Fr) (x : Mix) : Fr := weightTo as x x.length
theorem weightTo_succ (as : List Fr) (x : Mix) (k : Nat) : weightTo as x (k + 1) = mul (weightTo as x k) (powF (as.getD k (0, 1)) (x.getD k 0)) := by
  unfold weightTo
  rw [List.range_succ, List.map_append, List.foldl_append]
  rfl
theorem weight_is {n : Nat} {p : List Nat} (h : PointOk n p) {x : Mix} (hx : x.length = n) : weightP (amounts p) x = Kp340.weight p x := by
  unfold weightP weightTo Kp340.weight prodF
  refine congrArg (List.foldl mul (1, 1)) (List.map_congr_left fun i hi => ?_)
  rw [amounts_at h (by rw [← hx]; exact List.mem_range.mp hi)]
def AmOk (as : List Fr) : Prop := ∀ x ∈ as, Ok x ∧ Small 10 x
theorem AmOk.at {as : List Fr} (h : AmOk as) (k : Nat) : Ok (as.getD k (0, 1)) ∧ Small 10 (as.getD k (0, 1)) := by
  by_cases hk : k < as.length
  · exact h _ (mem_getD hk)
  · rw [getD_out (by omega)]
    exact ⟨ok01, small01.mono (by decide)⟩
theorem weightTo_small {as : List Fr} (h : AmOk as) {x : Mix} (hx : ∀ k, x.getD k 0 ≤ 3) : ∀ k, Ok (weightTo as x k) ∧ Small (31 * k + 1) (weightTo as x k)
  | 0 => ⟨ok11, small11⟩
  | k + 1 => by
    obtain ⟨a, b⟩ := weightTo_small h hx k
    obtain ⟨c, d⟩ := h.at k
    obtain ⟨e, f⟩ := pow_small c d (x.getD k 0)
    rw [weightTo_succ]
    have := hx k
    exact ⟨mul_ok a e, (mul_small a e b f).mono (by omega)⟩
/-! ### change -/
def changeTo (rules : List Rule) (as : List Fr) (s : Nat) : Fr := rules.foldl (fun (t : Fr) (r : Rule) => plusP t (timesP (timesP r.speed (weightP as r.left)) (delta r s, 1))) (0, 1)
theorem changeTo_succ {rules : List Rule} {as : List Fr} {s k : Nat} {r : Rule} (h : rules[k]? = some r) : changeTo (rules.take (k + 1)) as s = plusP (changeTo (rules.take k) as s) (timesP (timesP r.speed (weightP as r.left)) (delta r s, 1)) := by
  unfold changeTo
  rw [List.take_add_one, h, List.foldl_append]
  rfl
theorem change_is {m : Net} (h : NetOk m) {p : List Nat} (hp : PointOk m.n p) (s : Nat) : changeTo m.rules (amounts p) s = change m p s := by
  unfold changeTo change sumF
  rw [List.foldl_map]
  have : ∀ (l : List Rule) (t : Fr), (∀ r ∈ l, r ∈ m.rules) → l.foldl (fun (t : Fr) (r : Rule) => plusP t (timesP (timesP r.speed (weightP (amounts p) r.left)) (delta r s, 1))) t = l.foldl (fun x y => add x (mul (ofInt ((y.right.getD s 0 : Int) - (y.left.getD s 0 : Int))) (flow p y))) t := by
    intro l
    induction l with
    | nil => intro _ _; rfl
    | cons r l ih =>
      intro t hl
      rw [List.foldl_cons, List.foldl_cons, ih _ fun q hq => hl q (List.mem_cons_of_mem _ hq)]
      refine congrArg (fun z => List.foldl _ z l) ?_
      rw [weight_is hp (h.each r (hl r List.mem_cons_self)).left]
      show add t (mul (mul r.speed (Kp340.weight p r.left)) (delta r s, 1)) = _
      rw [mul_comm']
      rfl
  exact this m.rules (0, 1) fun r h => h
theorem mix3 {x : Mix} (h : ∀ y ∈ x, y ≤ 3) (k : Nat) : x.getD k 0 ≤ 3 := by
  by_cases hc : k < x.length
  · exact h _ (mem_getD hc)
  · rw [getD_out (by omega)]; omega
theorem flow_small {n : Nat} {r : Rule} (ro : RuleOk n r) (hn : n ≤ 4) {as : List Fr} (ha : AmOk as) : (Ok (weightP as r.left) ∧ Small 125 (weightP as r.left)) ∧ Ok (mul r.speed (weightP as r.left)) ∧ Small 135 (mul r.speed (weightP as r.left)) := by
  obtain ⟨a, b⟩ := weightTo_small ha (mix3 ro.small.1) r.left.length
  have hl := ro.left
  have b' : Small 125 (weightP as r.left) := b.mono (by omega)
  have hs : Small 10 r.speed := by
    have h1 := ro.lo
    have h2 := ro.ok.1
    have : (2 : Nat) ^ 10 = 1024 := by decide
    exact ⟨by omega, by omega⟩
  exact ⟨⟨a, b'⟩, mul_ok ro.ok a, mul_small ro.ok a hs b'⟩
theorem delta_small2 {n : Nat} {r : Rule} (ro : RuleOk n r) (s : Nat) : Small 2 (delta r s, 1) := by
  have q1 := mix3 ro.small.1 s
  have q2 := mix3 ro.small.2 s
  have : (2 : Nat) ^ 2 = 4 := by decide
  refine ⟨?_, by show 1 < 2 ^ 2; decide⟩
  show (delta r s).natAbs < 2 ^ 2
  unfold delta
  omega
theorem changeTo_small {n : Nat} {as : List Fr} (hn : n ≤ 4) (ha : AmOk as) (s : Nat) : ∀ rules : List Rule, (∀ r ∈ rules, RuleOk n r) → Ok (changeTo rules as s) ∧ Small (138 * rules.length + 1) (changeTo rules as s) := by
  intro rules hr
  have : ∀ (l : List Rule) (t : Fr) (k : Nat), (∀ r ∈ l, RuleOk n r) → Ok t → Small (138 * k + 1) t → Ok (l.foldl (fun (t : Fr) (r : Rule) => plusP t (timesP (timesP r.speed (weightP as r.left)) (delta r s, 1))) t) ∧ Small (138 * (k + l.length) + 1) (l.foldl (fun (t : Fr) (r : Rule) => plusP t (timesP (timesP r.speed (weightP as r.left)) (delta r s, 1))) t) := by
    intro l
    induction l with
    | nil => intro t k _ o s; exact ⟨o, s⟩
    | cons r l ih =>
      intro t k hl o st
      have ro := hl r List.mem_cons_self
      obtain ⟨_, f1, f2⟩ := flow_small ro hn ha
      have m1 := mul_ok f1 (okI (delta r s))
      have m2 := mul_small f1 (okI (delta r s)) f2 (delta_small2 ro s)
      have := ih (add t (mul (mul r.speed (weightP as r.left)) (delta r s, 1))) (k + 1) (fun q hq => hl q (List.mem_cons_of_mem _ hq)) (add_ok o m1) ((add_small o m1 st m2).mono (by omega))
      rw [List.length_cons, show k + (l.length + 1) = k + 1 + l.length by omega]
      exact this
  have h := this rules (0, 1) 0 hr ok01 (small01.mono (by omega))
  rw [Nat.zero_add] at h
  exact h
def steadyP (rules : List Rule) (as : List Fr) (n : Nat) : Bool := (List.range n).all fun s => decide (changeTo rules as s = (0, 1))
theorem steady_is {m : Net} (h : NetOk m) {p : List Nat} (hp : PointOk m.n p) : Kp340.steady m p = steadyP m.rules (amounts p) m.n := by
  unfold Kp340.steady steadyP
  have : ∀ l : List Nat, (l.all fun i => (change m p i).1 == 0) = l.all fun s => decide (changeTo m.rules (amounts p) s = (0, 1)) := by
    intro l
    induction l with
    | nil => rfl
    | cons s l ih =>
      rw [List.all_cons, List.all_cons, ih, change_is h hp]
      refine congrArg (· && _) ?_
      have o := (changeTo_small h.n.2 (amounts_small hp) s m.rules h.each).1
      rw [change_is h hp] at o
      exact o.zero
  exact this _
def metAt (m : Net) (as : List Fr) (s : Nat) : Bool := match levelP m.rules m.n s with
  | none => true
  | some x => decide (powF (as.getD s (0, 1)) x.1.toNat = x.2)
def metP (m : Net) (as : List Fr) : Bool := (List.range m.n).all (metAt m as)
theorem met_is {m : Net} (h : NetOk m) {p : List Nat} (hp : PointOk m.n p) : levelsMet m p = metP m (amounts p) := by
  unfold levelsMet metP
  have : ∀ l : List Nat, (∀ s ∈ l, s < m.n) → (l.all fun s => match levelOf m s with
      | none => true
      | some (e, q) => powF (coord p s) e == q) = l.all (metAt m (amounts p)) := by
    intro l
    induction l with
    | nil => intro _; rfl
    | cons s l ih =>
      intro hl
      rw [List.all_cons, List.all_cons, ih fun q hq => hl q (List.mem_cons_of_mem _ hq)]
      refine congrArg (· && _) ?_
      have hs := hl s List.mem_cons_self
      unfold metAt
      rw [level_is h hs, amounts_at hp hs]
      cases levelP m.rules m.n s with
      | none => rfl
      | some x =>
        show (powF (coord p s) x.1.toNat == x.2) = decide (powF (coord p s) x.1.toNat = x.2)
        by_cases e : powF (coord p s) x.1.toNat = x.2
        · rw [decide_eq_true e, e]
          exact beq_self_eq_true _
        · rw [decide_eq_false e]
          exact beq_eq_false_iff_ne.mpr e
  exact this _ fun s hs => List.mem_range.mp hs
/-! ### the steps -/
theorem stepA_pairs (m : Net) : stepA m .pairs = (m, ((pairsOf m).length : Int) :: (pairsOf m).flatMap fun x => [(x.1 : Int), (x.2.1 : Int), (x.2.2 : Int)]) := rfl
theorem stepA_same (m : Net) : stepA m .same = (m, ((sameOf m).length : Int) :: (sameOf m).map fun (x : Nat) => (x : Int)) := rfl
theorem stepA_ends (m : Net) : stepA m .ends = (m, (((List.range (mixtures m).length).filter (ending m)).length : Int) :: ((List.range (mixtures m).length).filter (ending m)).map fun (x : Nat) => (x : Int)) := rfl
theorem stepA_hides (m : Net) : stepA m .hides = (m, [((hidden m).length : Int)]) := rfl
theorem stepA_weight_no {m : Net} {i : Nat} {p : List Nat} (h : (mixtures m).length ≤ i) : stepA m (.weight i p) = (m, [-2]) := by
  unfold stepA Kp343.step
  have : isMix m i = false := decide_eq_false (by omega)
  simp only [this, if_true]
  rfl
theorem stepA_weight_bad {m : Net} {i : Nat} {p : List Nat} (h : i < (mixtures m).length) (hp : okPoint m.n p = false) : stepA m (.weight i p) = (m, [-22]) := by
  unfold stepA Kp343.step
  have : isMix m i = true := decide_eq_true h
  simp only [this, okPoint_is, hp, if_true]
  rfl
theorem stepA_weight {m : Net} {i : Nat} {p : List Nat} (h : i < (mixtures m).length) (hp : okPoint m.n p = true) : stepA m (.weight i p) = (m, [0, (Kp340.weight p (mixAt m i)).1, (Kp340.weight p (mixAt m i)).2]) := by
  unfold stepA Kp343.step
  have : isMix m i = true := decide_eq_true h
  simp only [this, okPoint_is, hp]
  rfl
theorem stepA_steady_bad {m : Net} {p : List Nat} (hp : okPoint m.n p = false) : stepA m (.steady p) = (m, [-22]) := by
  unfold stepA Kp343.step
  simp only [okPoint_is, hp, if_true]
  rfl
theorem stepA_steady {m : Net} {p : List Nat} (hp : okPoint m.n p = true) : stepA m (.steady p) = (m, [if Kp340.steady m p = true then 1 else 0]) := by
  unfold stepA Kp343.step
  simp only [okPoint_is, hp]
  rfl
theorem stepA_met_bad {m : Net} {p : List Nat} (hp : okPoint m.n p = false) : stepA m (.met p) = (m, [-22]) := by
  unfold stepA Kp343.step
  simp only [okPoint_is, hp, if_true]
  rfl
theorem stepA_met {m : Net} {p : List Nat} (hp : okPoint m.n p = true) : stepA m (.met p) = (m, [if levelsMet m p = true then 1 else 0]) := by
  unfold stepA Kp343.step
  simp only [okPoint_is, hp]
  rfl
theorem stepA_ifSpeed_no {m : Net} {j a b s : Nat} (h : m.rules.length ≤ j ∨ m.n ≤ s) : stepA m (.ifSpeed j a b s) = (m, [-2]) := by
  unfold stepA Kp343.step
  have : isRule m j = false ∨ m.n ≤ s := by
    rcases h with h | h
    · exact .inl (decide_eq_false (by omega))
    · exact .inr h
  simp only [this, if_true]
  rfl
theorem stepA_ifSpeed_bad {m : Net} {j a b s : Nat} (h : j < m.rules.length) (hs : s < m.n) (h2 : okSpeed a b = false) : stepA m (.ifSpeed j a b s) = (m, [-22]) := by
  unfold stepA Kp343.step
  have : ¬ (isRule m j = false ∨ m.n ≤ s) := by
    rintro (z | z)
    · rw [isRule_iff, decide_eq_true h] at z
      cases z
    · omega
  simp only [this, if_false, h2, if_true]
  rfl
theorem stepA_ifSpeed {m : Net} {j a b s : Nat} (h : j < m.rules.length) (hs : s < m.n) (h2 : okSpeed a b = true) : stepA m (.ifSpeed j a b s) = (m, levelAnsI { m with rules := m.rules.set j { ruleAt m j with speed := fr (a : Nat) (b : Nat) } } s) := by
  rw [← levelAns_is]
  unfold stepA Kp343.step
  have : ¬ (isRule m j = false ∨ m.n ≤ s) := by
    rintro (z | z)
    · rw [isRule_iff, decide_eq_true h] at z
      cases z
    · omega
  simp only [this, if_false, h2]
  rfl
end Sl

/-! Heaps: what data lie where, and what keeps them. -/
namespace Sl
open PySem PySem.Spec PyProof.Rows L2
open Kp340 (Fr Mix Net)
/-! ### the heap with one place hidden; what keeps tuples -/
def hide (H : Hp) (D : Addr) : Hp := fun b => if b = D then none else H b
theorem hide_ne {H : Hp} {D b : Addr} (h : b ≠ D) : hide H D b = H b := if_neg h
theorem hide_sub (H : Hp) (D : Addr) : Same (hide H D) H := fun b o h => by
  unfold hide at h
  split at h
  · cases h
  · exact h
theorem same_upd {H : Hp} {p : Addr} {o : HO} (h : H p = none) : Same H (upd H p o) := fun b x e => by
  rw [upd_ne (ne_of_none e h)]
  exact e
theorem hide_upd (H : Hp) (D : Addr) (o : HO) : hide (upd H D o) D = hide H D := by
  funext b
  unfold hide
  split
  · rfl
  · rename_i h
    exact upd_ne h
theorem hide_same {H H' : Hp} (s : Same H H') (D : Addr) : Same (hide H D) (hide H' D) := fun b o h => by
  have : b ≠ D := fun e => by
    rw [e] at h
    unfold hide at h
    rw [if_pos rfl] at h
    cases h
  rw [hide_ne this] at h ⊢
  exact s b o h
/-- tuples stay -/
def KeepT (H H' : Hp) : Prop := ∀ b xs, Rd H b (.tup xs) → Rd H' b (.tup xs)
theorem same_keepT {H H' : Hp} (s : Same H H') : KeepT H H' := fun b xs h => by
  rcases h with h | ⟨o, h⟩
  · exact .inl (s _ _ h)
  · exact .inr ⟨o, s _ _ h⟩
theorem KeepT.trans {H H1 H2 : Hp} (a : KeepT H H1) (b : KeepT H1 H2) : KeepT H H2 := fun c xs h => b c xs (a c xs h)
/-- what stands where a tuple does not -/
def NoTup (H : Hp) (D : Addr) : Prop := ∀ xs, ¬ Rd H D (.tup xs)
theorem notup_lst {H : Hp} {D : Addr} {xs : List V} (h : H D = some (.lst xs)) : NoTup H D := fun ys z => by
  rcases z with z | ⟨o, z⟩
  · rw [h] at z; cases z
  · rw [h] at z; cases z
theorem notup_ins {H : Hp} {D C dx : Addr} {fs : List (Str × V)} (h : H D = some (.ins C dx fs)) : NoTup H D := fun ys z => by
  rcases z with z | ⟨o, z⟩
  · rw [h] at z; cases z
  · rw [h] at z; cases z
theorem keepT_hide {H : Hp} {D : Addr} (h : NoTup H D) : KeepT H (hide H D) := fun b xs r => by
  have : b ≠ D := fun e => h xs (e ▸ r)
  rcases r with r | ⟨o, r⟩
  · exact .inl (by rw [hide_ne this]; exact r)
  · exact .inr ⟨o, by rw [hide_ne this]; exact r⟩
theorem keepT_upd {H : Hp} {D : Addr} {o : HO} (h : NoTup H D) : KeepT H (upd H D o) := fun b xs r => by
  have : b ≠ D := fun e => h xs (e ▸ r)
  rcases r with r | ⟨p, r⟩
  · exact .inl (by rw [upd_ne this]; exact r)
  · exact .inr ⟨p, by rw [upd_ne this]; exact r⟩
section
variable {K : PySem.W.Frag} {H H' : Hp}
theorem SqT_keep {a : Addr} {xs : List V} (k : KeepT H H') (h : SqT K H a xs) : SqT K H' a xs := by
  rcases h with h | h
  · exact .inl (k _ _ h)
  · exact .inr h
mutual
/-- no list within -/
def tupD : PyData → Bool
  | .list _ => false
  | .dict _ => false
  | .tuple ds => tupAll ds
  | _ => true
def tupAll : List PyData → Bool
  | [] => true
  | d :: ds => tupD d && tupAll ds
end
mutual
theorem Dp_mono (s : Same H H') : ∀ (d : PyData) (v : V), Dp K H v d → Dp K H' v d
  | .none, _, h => by cases h; exact .non
  | .bool b, _, h => by cases h; exact .bl b
  | .int i, _, h => by cases h; exact .int i
  | .str x, _, h => by cases h; exact .str x
  | .list ds, _, h => by
    cases h with
    | lst hs ha => exact .lst (Same.seq s hs) (DpAll_mono s ds _ ha)
  | .tuple ds, _, h => by
    cases h with
    | tup hs ha => exact .tup (SqT_keep (same_keepT s) hs) (DpAll_mono s ds _ ha)
  | .dict _, _, h => by cases h
theorem DpAll_mono (s : Same H H') : ∀ (ds : List PyData) (vs : List V), DpAll K H vs ds → DpAll K H' vs ds
  | [], _, h => by cases h; exact .nil
  | d :: ds, _, h => by
    cases h with
    | cons h1 h2 => exact .cons (Dp_mono s d _ h1) (DpAll_mono s ds _ h2)
end
mutual
theorem Dp_tup (s : KeepT H H') : ∀ (d : PyData) (v : V), tupD d = true → Dp K H v d → Dp K H' v d
  | .none, _, _, h => by cases h; exact .non
  | .bool b, _, _, h => by cases h; exact .bl b
  | .int i, _, _, h => by cases h; exact .int i
  | .str x, _, _, h => by cases h; exact .str x
  | .list ds, _, t, h => by cases t
  | .tuple ds, _, t, h => by
    cases h with
    | tup hs ha => exact .tup (SqT_keep s hs) (DpAll_tup s ds _ t ha)
  | .dict _, _, _, h => by cases h
theorem DpAll_tup (s : KeepT H H') : ∀ (ds : List PyData) (vs : List V), tupAll ds = true → DpAll K H vs ds → DpAll K H' vs ds
  | [], _, _, h => by cases h; exact .nil
  | d :: ds, _, t, h => by
    cases h with
    | cons h1 h2 =>
      have t2 : (tupD d && tupAll ds) = true := t
      rw [Bool.and_eq_true] at t2
      exact .cons (Dp_tup s d _ t2.1 h1) (DpAll_tup s ds _ t2.2 h2)
end
/-! ### lists of data -/
theorem DpAll_len : ∀ {ds : List PyData} {vs : List V}, DpAll K H vs ds → vs.length = ds.length
  | [], _, h => by cases h; rfl
  | d :: ds, _, h => by
    cases h with
    | cons h1 h2 => rw [List.length_cons, List.length_cons, DpAll_len h2]
theorem DpAll_app : ∀ {ds es : List PyData} {vs ws : List V}, DpAll K H vs ds → DpAll K H ws es → DpAll K H (vs ++ ws) (ds ++ es)
  | [], _, _, _, h, h2 => by cases h; exact h2
  | d :: ds, _, _, _, h, h2 => by
    cases h with
    | cons a b => exact .cons a (DpAll_app b h2)
theorem DpAll_one {v : V} {d : PyData} (h : Dp K H v d) : DpAll K H [v] [d] := .cons h .nil
theorem DpAll_at : ∀ {ds : List PyData} {vs : List V} {i : Nat} {v : V}, DpAll K H vs ds → vs[i]? = some v → ∃ d, ds[i]? = some d ∧ Dp K H v d
  | [], _, i, v, h, e => by cases h; simp at e
  | d :: ds, _, 0, v, h, e => by
    cases h with
    | cons a b =>
      have e : _ = v := Option.some.inj e
      exact ⟨d, rfl, e ▸ a⟩
  | d :: ds, _, i + 1, v, h, e => by
    cases h with
    | cons a b => exact DpAll_at (ds := ds) (i := i) b e
theorem DpAll_get : ∀ {ds : List PyData} {vs : List V} {i : Nat} {d : PyData}, DpAll K H vs ds → ds[i]? = some d → ∃ v, vs[i]? = some v ∧ Dp K H v d
  | [], _, i, d, h, e => by simp at e
  | d :: ds, _, 0, d', h, e => by
    cases h with
    | cons a b =>
      have e : d = d' := Option.some.inj e
      exact ⟨_, rfl, e ▸ a⟩
  | d :: ds, _, i + 1, d', h, e => by
    cases h with
    | cons a b => exact DpAll_get (ds := ds) (i := i) b e
theorem DpAll_take : ∀ {ds : List PyData} {vs : List V} (n : Nat), DpAll K H vs ds → DpAll K H (vs.take n) (ds.take n)
  | _, _, 0, _ => .nil
  | [], _, n + 1, h => by cases h; exact .nil
  | d :: ds, _, n + 1, h => by
    cases h with
    | cons a b => exact .cons a (DpAll_take n b)
theorem DpAll_drop : ∀ {ds : List PyData} {vs : List V} (n : Nat), DpAll K H vs ds → DpAll K H (vs.drop n) (ds.drop n)
  | _, _, 0, h => h
  | [], _, n + 1, h => by cases h; exact .nil
  | d :: ds, _, n + 1, h => by
    cases h with
    | cons a b => exact DpAll_drop n b
theorem DpAll_set : ∀ {ds : List PyData} {vs : List V} (n : Nat) {v : V} {d : PyData}, DpAll K H vs ds → Dp K H v d → DpAll K H (vs.set n v) (ds.set n d)
  | [], _, n, _, _, h, _ => by cases h; exact .nil
  | d :: ds, _, 0, _, _, h, q => by
    cases h with
    | cons a b => exact .cons q b
  | d :: ds, _, n + 1, _, _, h, q => by
    cases h with
    | cons a b => exact .cons a (DpAll_set n b q)
/-! whole numbers -/
theorem DpInts : ∀ (ns : List Int), DpAll K H (ns.map V.int) (ns.map PyData.int)
  | [] => .nil
  | n :: ns => .cons (.int n) (DpInts ns)
theorem ints_of : ∀ {ns : List Int} {vs : List V}, DpAll K H vs (ns.map PyData.int) → vs = ns.map V.int
  | [], _, h => by cases h; rfl
  | n :: ns, _, h => by
    cases h with
    | cons a b =>
      cases a
      rw [List.map_cons, ints_of b]
theorem Dp_int {v : V} {i : Int} (h : Dp K H v (.int i)) : v = .int i := by cases h; rfl
theorem Dp_tuple {v : V} {ds : List PyData} (h : Dp K H v (.tuple ds)) : ∃ p xs, v = .ref p ∧ SqT K H p xs ∧ DpAll K H xs ds := by
  cases h with
  | tup a b => exact ⟨_, _, rfl, a, b⟩
theorem Dp_list {v : V} {ds : List PyData} (h : Dp K H v (.list ds)) : ∃ p xs, v = .ref p ∧ SqL K H p xs ∧ DpAll K H xs ds := by
  cases h with
  | lst a b => exact ⟨_, _, rfl, a, b⟩
/-! ### the program's data -/
def eF (x : Fr) : PyData := .tuple [.int x.1, .int x.2]
def eRow (r : Row) : PyData := .list (r.map eF)
def eMix (x : Mix) : PyData := .tuple (x.map fun (n : Nat) => PyData.int (n : Int))
def eRule (r : Kp340.Rule) : PyData := .tuple [eMix r.left, eMix r.right, eF r.speed]
theorem Dp_F {v : V} {x : Fr} (h : Dp K H v (eF x)) : ∃ p, v = .ref p ∧ SqT K H p [.int x.1, .int x.2] := by
  obtain ⟨p, xs, rfl, a, b⟩ := Dp_tuple h
  refine ⟨p, rfl, ?_⟩
  have := ints_of (ns := [x.1, x.2]) b
  rw [this] at a
  exact a
theorem F_of {p : Addr} {x : Fr} (h : H p = some (.tup [.int x.1, .int x.2])) : Dp K H (.ref p) (eF x) := .tup (SqT.of h) (DpInts [x.1, x.2])
theorem tup_F (x : Fr) : tupD (eF x) = true := rfl
theorem tup_ints : ∀ ns : List Int, tupAll (ns.map PyData.int) = true
  | [] => rfl
  | n :: ns => tup_ints ns
theorem tup_Fs : ∀ r : Row, tupAll (r.map eF) = true
  | [] => rfl
  | x :: r => tup_Fs r
theorem Dp_keepF {v : V} {x : Fr} (k : KeepT H H') (h : Dp K H v (eF x)) : Dp K H' v (eF x) := Dp_tup k _ _ (tup_F x) h
theorem DpAll_keepF {vs : List V} {r : Row} (k : KeepT H H') (h : DpAll K H vs (r.map eF)) : DpAll K H' vs (r.map eF) := DpAll_tup k _ _ (tup_Fs r) h
end
end Sl

/-! The text: each def by its place; what the top has written. -/
namespace Sl
open PySem PySem.Spec PyProof.Rows L2
open Kp340 (Fr Mix Net)
def topS (i : Nat) : Stmt := PySem.Challenge.pw_samelevels_s01_answers.main.body.getD i (.Pass ⟨0, 0, 0, 0⟩)
abbrev sCommon : Stmt := topS 3
abbrev NCommon : List Str := ["a", "b", "rest"]
theorem scCommon : FnScope NCommon ["a", "b"] (defScope sCommon) := ⟨rfl, rfl, rfl, by decide +kernel, rfl, by decide +kernel, by decide +kernel⟩
abbrev sLowest : Stmt := topS 4
abbrev NLowest : List Str := ["top", "bottom", "shared"]
theorem scLowest : FnScope NLowest ["top", "bottom"] (defScope sLowest) := ⟨rfl, rfl, rfl, by decide +kernel, rfl, by decide +kernel, by decide +kernel⟩
abbrev sPlus : Stmt := topS 5
abbrev NPlus : List Str := ["p", "q"]
theorem scPlus : FnScope NPlus ["p", "q"] (defScope sPlus) := ⟨rfl, rfl, rfl, by decide +kernel, rfl, by decide +kernel, by decide +kernel⟩
abbrev sMinus : Stmt := topS 6
abbrev NMinus : List Str := ["p", "q"]
theorem scMinus : FnScope NMinus ["p", "q"] (defScope sMinus) := ⟨rfl, rfl, rfl, by decide +kernel, rfl, by decide +kernel, by decide +kernel⟩
abbrev sTimes : Stmt := topS 7
abbrev NTimes : List Str := ["p", "q"]
theorem scTimes : FnScope NTimes ["p", "q"] (defScope sTimes) := ⟨rfl, rfl, rfl, by decide +kernel, rfl, by decide +kernel, by decide +kernel⟩
abbrev sOver : Stmt := topS 8
abbrev NOver : List Str := ["p", "q"]
theorem scOver : FnScope NOver ["p", "q"] (defScope sOver) := ⟨rfl, rfl, rfl, by decide +kernel, rfl, by decide +kernel, by decide +kernel⟩
abbrev sPower : Stmt := topS 9
abbrev NPower : List Str := ["p", "e", "result", "k"]
theorem scPower : FnScope NPower ["p", "e"] (defScope sPower) := ⟨rfl, rfl, rfl, by decide +kernel, rfl, by decide +kernel, by decide +kernel⟩
abbrev sFirstWith : Stmt := topS 11
abbrev NFirstWith : List Str := ["rows", "column", "k"]
theorem scFirstWith : FnScope NFirstWith ["rows", "column"] (defScope sFirstWith) := ⟨rfl, rfl, rfl, by decide +kernel, rfl, by decide +kernel, by decide +kernel⟩
abbrev sLed : Stmt := topS 12
abbrev NLed : List Str := ["row", "column", "part"]
theorem scLed : FnScope NLed ["row", "column"] (defScope sLed) := ⟨rfl, rfl, rfl, by decide +kernel, rfl, by decide +kernel, by decide +kernel⟩
abbrev sCleared : Stmt := topS 13
abbrev NCleared : List Str := ["row", "lead", "column", "factor", "k"]
theorem scCleared : FnScope NCleared ["row", "lead", "column"] (defScope sCleared) := ⟨rfl, rfl, rfl, by decide +kernel, rfl, by decide +kernel, by decide +kernel⟩
abbrev sRelationsAmong : Stmt := topS 14
abbrev NRelationsAmong : List Str := ["rows", "width", "done", "rest", "column", "k", "lead", "others", "row"]
theorem scRelationsAmong : FnScope NRelationsAmong ["rows", "width"] (defScope sRelationsAmong) := ⟨rfl, rfl, rfl, by decide +kernel, rfl, by decide +kernel, by decide +kernel⟩
abbrev sLeadColumn : Stmt := topS 15
abbrev NLeadColumn : List Str := ["relation", "column"]
theorem scLeadColumn : FnScope NLeadColumn ["relation"] (defScope sLeadColumn) := ⟨rfl, rfl, rfl, by decide +kernel, rfl, by decide +kernel, by decide +kernel⟩
abbrev sWeightsWith : Stmt := topS 16
abbrev NWeightsWith : List Str := ["relations", "leads", "width", "column", "weights", "k"]
theorem scWeightsWith : FnScope NWeightsWith ["relations", "leads", "width", "column"] (defScope sWeightsWith) := ⟨rfl, rfl, rfl, by decide +kernel, rfl, by decide +kernel, by decide +kernel⟩
abbrev sWeightsThatCouldBe : Stmt := topS 17
abbrev NWeightsThatCouldBe : List Str := ["relations", "width", "leads", "free", "relation", "column"]
theorem scWeightsThatCouldBe : FnScope NWeightsThatCouldBe ["relations", "width"] (defScope sWeightsThatCouldBe) := ⟨rfl, rfl, rfl, by decide +kernel, rfl, by decide +kernel, by decide +kernel⟩
abbrev sRatioAmong : Stmt := topS 18
abbrev NRatioAmong : List Str := ["choices", "i", "j", "found", "weights", "here"]
theorem scRatioAmong : FnScope NRatioAmong ["choices", "i", "j"] (defScope sRatioAmong) := ⟨rfl, rfl, rfl, by decide +kernel, rfl, by decide +kernel, by decide +kernel⟩
abbrev sMixturesOf : Stmt := topS 20
abbrev NMixturesOf : List Str := ["rules", "mixtures", "rule", "mixture"]
theorem scMixturesOf : FnScope NMixturesOf ["rules"] (defScope sMixturesOf) := ⟨rfl, rfl, rfl, by decide +kernel, rfl, by decide +kernel, by decide +kernel⟩
abbrev sNumbersTaken : Stmt := topS 21
abbrev NNumbersTaken : List Str := ["rules", "mixtures", "lefts", "rule", "i"]
theorem scNumbersTaken : FnScope NNumbersTaken ["rules"] (defScope sNumbersTaken) := ⟨rfl, rfl, rfl, by decide +kernel, rfl, by decide +kernel, by decide +kernel⟩
abbrev sMixturesTaken : Stmt := topS 22
abbrev NMixturesTaken : List Str := ["rules", "mixtures", "i"]
theorem scMixturesTaken : FnScope NMixturesTaken ["rules"] (defScope sMixturesTaken) := ⟨rfl, rfl, rfl, by decide +kernel, rfl, by decide +kernel, by decide +kernel⟩
abbrev sBrought : Stmt := topS 23
abbrev NBrought : List Str := ["rules", "mixture", "s", "total", "rule", "gain"]
theorem scBrought : FnScope NBrought ["rules", "mixture", "s"] (defScope sBrought) := ⟨rfl, rfl, rfl, by decide +kernel, rfl, by decide +kernel, by decide +kernel⟩
abbrev sRelationsOf : Stmt := topS 24
abbrev NRelationsOf : List Str := ["rules", "substances", "taken", "rows", "s", "mixture"]
theorem scRelationsOf : FnScope NRelationsOf ["rules", "substances"] (defScope sRelationsOf) := ⟨rfl, rfl, rfl, by decide +kernel, rfl, by decide +kernel, by decide +kernel⟩
abbrev sChoicesOf : Stmt := topS 25
abbrev NChoicesOf : List Str := ["rules", "substances", "relations"]
theorem scChoicesOf : FnScope NChoicesOf ["rules", "substances"] (defScope sChoicesOf) := ⟨rfl, rfl, rfl, by decide +kernel, rfl, by decide +kernel, by decide +kernel⟩
abbrev sRatioOf : Stmt := topS 26
abbrev NRatioOf : List Str := ["rules", "substances", "i", "j", "numbers", "choices"]
theorem scRatioOf : FnScope NRatioOf ["rules", "substances", "i", "j"] (defScope sRatioOf) := ⟨rfl, rfl, rfl, by decide +kernel, rfl, by decide +kernel, by decide +kernel⟩
abbrev sMoreBy : Stmt := topS 27
abbrev NMoreBy : List Str := ["first", "other", "s", "k"]
theorem scMoreBy : FnScope NMoreBy ["first", "other", "s"] (defScope sMoreBy) := ⟨rfl, rfl, rfl, by decide +kernel, rfl, by decide +kernel, by decide +kernel⟩
abbrev sLevelOf : Stmt := topS 28
abbrev NLevelOf : List Str := ["rules", "substances", "s", "taken", "choices", "i", "j", "e", "ratio"]
theorem scLevelOf : FnScope NLevelOf ["rules", "substances", "s"] (defScope sLevelOf) := ⟨rfl, rfl, rfl, by decide +kernel, rfl, by decide +kernel, by decide +kernel⟩
abbrev sStepsForwards : Stmt := topS 30
abbrev NStepsForwards : List Str := ["rules", "rule"]
theorem scStepsForwards : FnScope NStepsForwards ["rules"] (defScope sStepsForwards) := ⟨rfl, rfl, rfl, by decide +kernel, rfl, by decide +kernel, by decide +kernel⟩
abbrev sStepsBothWays : Stmt := topS 31
abbrev NStepsBothWays : List Str := ["rules", "rule"]
theorem scStepsBothWays : FnScope NStepsBothWays ["rules"] (defScope sStepsBothWays) := ⟨rfl, rfl, rfl, by decide +kernel, rfl, by decide +kernel, by decide +kernel⟩
abbrev sAllComeTo : Stmt := topS 32
abbrev NAllComeTo : List Str := ["steps", "start", "found", "place", "step"]
theorem scAllComeTo : FnScope NAllComeTo ["steps", "start"] (defScope sAllComeTo) := ⟨rfl, rfl, rfl, by decide +kernel, rfl, by decide +kernel, by decide +kernel⟩
abbrev sStays : Stmt := topS 33
abbrev NStays : List Str := ["rules", "mixture", "steps", "other"]
theorem scStays : FnScope NStays ["rules", "mixture"] (defScope sStays) := ⟨rfl, rfl, rfl, by decide +kernel, rfl, by decide +kernel, by decide +kernel⟩
abbrev sNumbersStaying : Stmt := topS 34
abbrev NNumbersStaying : List Str := ["rules", "mixtures", "i"]
theorem scNumbersStaying : FnScope NNumbersStaying ["rules"] (defScope sNumbersStaying) := ⟨rfl, rfl, rfl, by decide +kernel, rfl, by decide +kernel, by decide +kernel⟩
abbrev sClassesOf : Stmt := topS 35
abbrev NClassesOf : List Str := ["rules", "steps", "classes", "placed", "mixture", "members"]
theorem scClassesOf : FnScope NClassesOf ["rules"] (defScope sClassesOf) := ⟨rfl, rfl, rfl, by decide +kernel, rfl, by decide +kernel, by decide +kernel⟩
abbrev sHowManyHidden : Stmt := topS 36
abbrev NHowManyHidden : List Str := ["rules", "substances", "mixtures", "rows", "s", "members", "mixture"]
theorem scHowManyHidden : FnScope NHowManyHidden ["rules", "substances"] (defScope sHowManyHidden) := ⟨rfl, rfl, rfl, by decide +kernel, rfl, by decide +kernel, by decide +kernel⟩
abbrev sMoreOf : Stmt := topS 37
abbrev NMoreOf : List Str := ["first", "other", "s"]
theorem scMoreOf : FnScope NMoreOf ["first", "other"] (defScope sMoreOf) := ⟨rfl, rfl, rfl, by decide +kernel, rfl, by decide +kernel, by decide +kernel⟩
abbrev sPairsOf : Stmt := topS 38
abbrev NPairsOf : List Str := ["rules", "substances", "mixtures", "staying", "leaving", "pairs", "i", "j", "s"]
theorem scPairsOf : FnScope NPairsOf ["rules", "substances"] (defScope sPairsOf) := ⟨rfl, rfl, rfl, by decide +kernel, rfl, by decide +kernel, by decide +kernel⟩
abbrev sSubstancesPaired : Stmt := topS 39
abbrev NSubstancesPaired : List Str := ["rules", "substances", "paired", "pair", "s"]
theorem scSubstancesPaired : FnScope NSubstancesPaired ["rules", "substances"] (defScope sSubstancesPaired) := ⟨rfl, rfl, rfl, by decide +kernel, rfl, by decide +kernel, by decide +kernel⟩
abbrev sMakesPoint : Stmt := topS 43
abbrev NMakesPoint : List Str := ["row", "substances", "number"]
theorem scMakesPoint : FnScope NMakesPoint ["row", "substances"] (defScope sMakesPoint) := ⟨rfl, rfl, rfl, by decide +kernel, rfl, by decide +kernel, by decide +kernel⟩
abbrev sAmountsAt : Stmt := topS 44
abbrev NAmountsAt : List Str := ["row", "number"]
theorem scAmountsAt : FnScope NAmountsAt ["row"] (defScope sAmountsAt) := ⟨rfl, rfl, rfl, by decide +kernel, rfl, by decide +kernel, by decide +kernel⟩
abbrev sWeightOf : Stmt := topS 45
abbrev NWeightOf : List Str := ["mixture", "amounts", "weight", "s"]
theorem scWeightOf : FnScope NWeightOf ["mixture", "amounts"] (defScope sWeightOf) := ⟨rfl, rfl, rfl, by decide +kernel, rfl, by decide +kernel, by decide +kernel⟩
abbrev sChangeOf : Stmt := topS 46
abbrev NChangeOf : List Str := ["rules", "amounts", "s", "total", "rule", "gain", "flow"]
theorem scChangeOf : FnScope NChangeOf ["rules", "amounts", "s"] (defScope sChangeOf) := ⟨rfl, rfl, rfl, by decide +kernel, rfl, by decide +kernel, by decide +kernel⟩
abbrev sIsSteady : Stmt := topS 47
abbrev NIsSteady : List Str := ["rules", "amounts", "s"]
theorem scIsSteady : FnScope NIsSteady ["rules", "amounts"] (defScope sIsSteady) := ⟨rfl, rfl, rfl, by decide +kernel, rfl, by decide +kernel, by decide +kernel⟩
abbrev sIsMet : Stmt := topS 48
abbrev NIsMet : List Str := ["rules", "amounts", "s", "level"]
theorem scIsMet : FnScope NIsMet ["rules", "amounts"] (defScope sIsMet) := ⟨rfl, rfl, rfl, by decide +kernel, rfl, by decide +kernel, by decide +kernel⟩
abbrev sMakesRule : Stmt := topS 60
abbrev NMakesRule : List Str := ["row", "substances", "amount"]
theorem scMakesRule : FnScope NMakesRule ["row", "substances"] (defScope sMakesRule) := ⟨rfl, rfl, rfl, by decide +kernel, rfl, by decide +kernel, by decide +kernel⟩
abbrev sMakesSpeed : Stmt := topS 61
abbrev NMakesSpeed : List Str := ["a", "b"]
theorem scMakesSpeed : FnScope NMakesSpeed ["a", "b"] (defScope sMakesSpeed) := ⟨rfl, rfl, rfl, by decide +kernel, rfl, by decide +kernel, by decide +kernel⟩
abbrev sRulesAt : Stmt := topS 62
abbrev NRulesAt : List Str := ["rules", "j", "speed", "changed"]
theorem scRulesAt : FnScope NRulesAt ["rules", "j", "speed"] (defScope sRulesAt) := ⟨rfl, rfl, rfl, by decide +kernel, rfl, by decide +kernel, by decide +kernel⟩
abbrev sLevelTold : Stmt := topS 63
abbrev NLevelTold : List Str := ["rules", "substances", "s", "found"]
theorem scLevelTold : FnScope NLevelTold ["rules", "substances", "s"] (defScope sLevelTold) := ⟨rfl, rfl, rfl, by decide +kernel, rfl, by decide +kernel, by decide +kernel⟩
abbrev sVesselInit : Stmt := inClass (topS 64) 0
abbrev NVesselInit : List Str := ["self"]
theorem scVesselInit : FnScope NVesselInit ["self"] (defScope sVesselInit) := ⟨rfl, rfl, rfl, by decide +kernel, rfl, by decide +kernel, by decide +kernel⟩
abbrev sVesselHasBegun : Stmt := inClass (topS 64) 1
abbrev NVesselHasBegun : List Str := ["self"]
theorem scVesselHasBegun : FnScope NVesselHasBegun ["self"] (defScope sVesselHasBegun) := ⟨rfl, rfl, rfl, by decide +kernel, rfl, by decide +kernel, by decide +kernel⟩
abbrev sVesselHasRule : Stmt := inClass (topS 64) 2
abbrev NVesselHasRule : List Str := ["self", "left", "right", "rule"]
theorem scVesselHasRule : FnScope NVesselHasRule ["self", "left", "right"] (defScope sVesselHasRule) := ⟨rfl, rfl, rfl, by decide +kernel, rfl, by decide +kernel, by decide +kernel⟩
abbrev sVesselBegin : Stmt := inClass (topS 64) 3
abbrev NVesselBegin : List Str := ["self", "n"]
theorem scVesselBegin : FnScope NVesselBegin ["self", "n"] (defScope sVesselBegin) := ⟨rfl, rfl, rfl, by decide +kernel, rfl, by decide +kernel, by decide +kernel⟩
abbrev sVesselRule : Stmt := inClass (topS 64) 4
abbrev NVesselRule : List Str := ["self", "row", "left", "right"]
theorem scVesselRule : FnScope NVesselRule ["self", "row"] (defScope sVesselRule) := ⟨rfl, rfl, rfl, by decide +kernel, rfl, by decide +kernel, by decide +kernel⟩
abbrev sVesselUnrule : Stmt := inClass (topS 64) 5
abbrev NVesselUnrule : List Str := ["self", "j"]
theorem scVesselUnrule : FnScope NVesselUnrule ["self", "j"] (defScope sVesselUnrule) := ⟨rfl, rfl, rfl, by decide +kernel, rfl, by decide +kernel, by decide +kernel⟩
abbrev sVesselRuleis : Stmt := inClass (topS 64) 6
abbrev NVesselRuleis : List Str := ["self", "j", "rule"]
theorem scVesselRuleis : FnScope NVesselRuleis ["self", "j"] (defScope sVesselRuleis) := ⟨rfl, rfl, rfl, by decide +kernel, rfl, by decide +kernel, by decide +kernel⟩
abbrev sVesselSpeed : Stmt := inClass (topS 64) 7
abbrev NVesselSpeed : List Str := ["self", "j", "a", "b"]
theorem scVesselSpeed : FnScope NVesselSpeed ["self", "j", "a", "b"] (defScope sVesselSpeed) := ⟨rfl, rfl, rfl, by decide +kernel, rfl, by decide +kernel, by decide +kernel⟩
abbrev sVesselLefts : Stmt := inClass (topS 64) 8
abbrev NVesselLefts : List Str := ["self", "numbers"]
theorem scVesselLefts : FnScope NVesselLefts ["self"] (defScope sVesselLefts) := ⟨rfl, rfl, rfl, by decide +kernel, rfl, by decide +kernel, by decide +kernel⟩
abbrev sVesselRelations : Stmt := inClass (topS 64) 9
abbrev NVesselRelations : List Str := ["self", "found", "told", "relation", "part"]
theorem scVesselRelations : FnScope NVesselRelations ["self"] (defScope sVesselRelations) := ⟨rfl, rfl, rfl, by decide +kernel, rfl, by decide +kernel, by decide +kernel⟩
abbrev sVesselRatio : Stmt := inClass (topS 64) 10
abbrev NVesselRatio : List Str := ["self", "i", "j", "numbers", "found"]
theorem scVesselRatio : FnScope NVesselRatio ["self", "i", "j"] (defScope sVesselRatio) := ⟨rfl, rfl, rfl, by decide +kernel, rfl, by decide +kernel, by decide +kernel⟩
abbrev sVesselLevel : Stmt := inClass (topS 64) 11
abbrev NVesselLevel : List Str := ["self", "s"]
theorem scVesselLevel : FnScope NVesselLevel ["self", "s"] (defScope sVesselLevel) := ⟨rfl, rfl, rfl, by decide +kernel, rfl, by decide +kernel, by decide +kernel⟩
abbrev sVesselIfspeed : Stmt := inClass (topS 64) 12
abbrev NVesselIfspeed : List Str := ["self", "j", "a", "b", "s"]
theorem scVesselIfspeed : FnScope NVesselIfspeed ["self", "j", "a", "b", "s"] (defScope sVesselIfspeed) := ⟨rfl, rfl, rfl, by decide +kernel, rfl, by decide +kernel, by decide +kernel⟩
abbrev sVesselPairs : Stmt := inClass (topS 64) 13
abbrev NVesselPairs : List Str := ["self", "found", "told", "pair"]
theorem scVesselPairs : FnScope NVesselPairs ["self"] (defScope sVesselPairs) := ⟨rfl, rfl, rfl, by decide +kernel, rfl, by decide +kernel, by decide +kernel⟩
abbrev sVesselSame : Stmt := inClass (topS 64) 14
abbrev NVesselSame : List Str := ["self", "found"]
theorem scVesselSame : FnScope NVesselSame ["self"] (defScope sVesselSame) := ⟨rfl, rfl, rfl, by decide +kernel, rfl, by decide +kernel, by decide +kernel⟩
abbrev sVesselEnds : Stmt := inClass (topS 64) 15
abbrev NVesselEnds : List Str := ["self", "numbers"]
theorem scVesselEnds : FnScope NVesselEnds ["self"] (defScope sVesselEnds) := ⟨rfl, rfl, rfl, by decide +kernel, rfl, by decide +kernel, by decide +kernel⟩
abbrev sVesselHides : Stmt := inClass (topS 64) 16
abbrev NVesselHides : List Str := ["self"]
theorem scVesselHides : FnScope NVesselHides ["self"] (defScope sVesselHides) := ⟨rfl, rfl, rfl, by decide +kernel, rfl, by decide +kernel, by decide +kernel⟩
abbrev sVesselWeight : Stmt := inClass (topS 64) 17
abbrev NVesselWeight : List Str := ["self", "i", "row", "mixtures"]
theorem scVesselWeight : FnScope NVesselWeight ["self", "i", "row"] (defScope sVesselWeight) := ⟨rfl, rfl, rfl, by decide +kernel, rfl, by decide +kernel, by decide +kernel⟩
abbrev sVesselSteady : Stmt := inClass (topS 64) 18
abbrev NVesselSteady : List Str := ["self", "row"]
theorem scVesselSteady : FnScope NVesselSteady ["self", "row"] (defScope sVesselSteady) := ⟨rfl, rfl, rfl, by decide +kernel, rfl, by decide +kernel, by decide +kernel⟩
abbrev sVesselMet : Stmt := inClass (topS 64) 19
abbrev NVesselMet : List Str := ["self", "row"]
theorem scVesselMet : FnScope NVesselMet ["self", "row"] (defScope sVesselMet) := ⟨rfl, rfl, rfl, by decide +kernel, rfl, by decide +kernel, by decide +kernel⟩
abbrev sNumbersAt : Stmt := topS 84
abbrev NNumbersAt : List Str := ["calls", "place", "start"]
theorem scNumbersAt : FnScope NNumbersAt ["calls", "place"] (defScope sNumbersAt) := ⟨rfl, rfl, rfl, by decide +kernel, rfl, by decide +kernel, by decide +kernel⟩
abbrev sRowAt : Stmt := topS 85
abbrev NRowAt : List Str := ["calls", "place", "start"]
theorem scRowAt : FnScope NRowAt ["calls", "place"] (defScope sRowAt) := ⟨rfl, rfl, rfl, by decide +kernel, rfl, by decide +kernel, by decide +kernel⟩
abbrev sPlaceBehind : Stmt := topS 86
abbrev NPlaceBehind : List Str := ["calls", "place", "end"]
theorem scPlaceBehind : FnScope NPlaceBehind ["calls", "place"] (defScope sPlaceBehind) := ⟨rfl, rfl, rfl, by decide +kernel, rfl, by decide +kernel, by decide +kernel⟩
abbrev sAnswerOnRules : Stmt := topS 87
abbrev NAnswerOnRules : List Str := ["vessel", "call", "numbers", "row"]
theorem scAnswerOnRules : FnScope NAnswerOnRules ["vessel", "call", "numbers", "row"] (defScope sAnswerOnRules) := ⟨rfl, rfl, rfl, by decide +kernel, rfl, by decide +kernel, by decide +kernel⟩
abbrev sAnswerBySums : Stmt := topS 88
abbrev NAnswerBySums : List Str := ["vessel", "call", "numbers"]
theorem scAnswerBySums : FnScope NAnswerBySums ["vessel", "call", "numbers"] (defScope sAnswerBySums) := ⟨rfl, rfl, rfl, by decide +kernel, rfl, by decide +kernel, by decide +kernel⟩
abbrev sAnswerByKnot : Stmt := topS 89
abbrev NAnswerByKnot : List Str := ["vessel", "call"]
theorem scAnswerByKnot : FnScope NAnswerByKnot ["vessel", "call"] (defScope sAnswerByKnot) := ⟨rfl, rfl, rfl, by decide +kernel, rfl, by decide +kernel, by decide +kernel⟩
abbrev sAnswerAtPoint : Stmt := topS 90
abbrev NAnswerAtPoint : List Str := ["vessel", "call", "numbers", "row"]
theorem scAnswerAtPoint : FnScope NAnswerAtPoint ["vessel", "call", "numbers", "row"] (defScope sAnswerAtPoint) := ⟨rfl, rfl, rfl, by decide +kernel, rfl, by decide +kernel, by decide +kernel⟩
abbrev sAnswer : Stmt := topS 91
abbrev NAnswer : List Str := ["vessel", "call", "numbers", "row"]
theorem scAnswer : FnScope NAnswer ["vessel", "call", "numbers", "row"] (defScope sAnswer) := ⟨rfl, rfl, rfl, by decide +kernel, rfl, by decide +kernel, by decide +kernel⟩
abbrev sAnswers : Stmt := topS 92
abbrev NAnswers : List Str := ["calls", "vessel", "told", "place", "found"]
theorem scAnswers : FnScope NAnswers ["calls"] (defScope sAnswers) := ⟨rfl, rfl, rfl, by decide +kernel, rfl, by decide +kernel, by decide +kernel⟩
/-- a def of the top: it stands at f -/
structure Df (K : PySem.W.Frag) (mg : Str → Option Value) (x : Str) (st : Stmt) (ps : List Str) (f : Addr) (fd : FuncData) : Prop where
  F : Fun K x x st f fd
  b : Binds K fd ps []
  g : mg x = some (.ref f)
/-- a method -/
structure Dm (K : PySem.W.Frag) (x qual : Str) (st : Stmt) (ps : List Str) (f : Addr) (fd : FuncData) : Prop where
  F : Fun K x qual st f fd
  b : Binds K fd ps []
structure Tx (K : PySem.W.Frag) (mg : Str → Option Value) where
  C : Addr
  fCommon : Addr
  dCommon : FuncData
  oCommon : Df K mg "common" sCommon ["a", "b"] fCommon dCommon
  fLowest : Addr
  dLowest : FuncData
  oLowest : Df K mg "lowest" sLowest ["top", "bottom"] fLowest dLowest
  fPlus : Addr
  dPlus : FuncData
  oPlus : Df K mg "plus" sPlus ["p", "q"] fPlus dPlus
  fMinus : Addr
  dMinus : FuncData
  oMinus : Df K mg "minus" sMinus ["p", "q"] fMinus dMinus
  fTimes : Addr
  dTimes : FuncData
  oTimes : Df K mg "times" sTimes ["p", "q"] fTimes dTimes
  fOver : Addr
  dOver : FuncData
  oOver : Df K mg "over" sOver ["p", "q"] fOver dOver
  fPower : Addr
  dPower : FuncData
  oPower : Df K mg "power" sPower ["p", "e"] fPower dPower
  fFirstWith : Addr
  dFirstWith : FuncData
  oFirstWith : Df K mg "first_with" sFirstWith ["rows", "column"] fFirstWith dFirstWith
  fLed : Addr
  dLed : FuncData
  oLed : Df K mg "led" sLed ["row", "column"] fLed dLed
  fCleared : Addr
  dCleared : FuncData
  oCleared : Df K mg "cleared" sCleared ["row", "lead", "column"] fCleared dCleared
  fRelationsAmong : Addr
  dRelationsAmong : FuncData
  oRelationsAmong : Df K mg "relations_among" sRelationsAmong ["rows", "width"] fRelationsAmong dRelationsAmong
  fLeadColumn : Addr
  dLeadColumn : FuncData
  oLeadColumn : Df K mg "lead_column" sLeadColumn ["relation"] fLeadColumn dLeadColumn
  fWeightsWith : Addr
  dWeightsWith : FuncData
  oWeightsWith : Df K mg "weights_with" sWeightsWith ["relations", "leads", "width", "column"] fWeightsWith dWeightsWith
  fWeightsThatCouldBe : Addr
  dWeightsThatCouldBe : FuncData
  oWeightsThatCouldBe : Df K mg "weights_that_could_be" sWeightsThatCouldBe ["relations", "width"] fWeightsThatCouldBe dWeightsThatCouldBe
  fRatioAmong : Addr
  dRatioAmong : FuncData
  oRatioAmong : Df K mg "ratio_among" sRatioAmong ["choices", "i", "j"] fRatioAmong dRatioAmong
  fMixturesOf : Addr
  dMixturesOf : FuncData
  oMixturesOf : Df K mg "mixtures_of" sMixturesOf ["rules"] fMixturesOf dMixturesOf
  fNumbersTaken : Addr
  dNumbersTaken : FuncData
  oNumbersTaken : Df K mg "numbers_taken" sNumbersTaken ["rules"] fNumbersTaken dNumbersTaken
  fMixturesTaken : Addr
  dMixturesTaken : FuncData
  oMixturesTaken : Df K mg "mixtures_taken" sMixturesTaken ["rules"] fMixturesTaken dMixturesTaken
  fBrought : Addr
  dBrought : FuncData
  oBrought : Df K mg "brought" sBrought ["rules", "mixture", "s"] fBrought dBrought
  fRelationsOf : Addr
  dRelationsOf : FuncData
  oRelationsOf : Df K mg "relations_of" sRelationsOf ["rules", "substances"] fRelationsOf dRelationsOf
  fChoicesOf : Addr
  dChoicesOf : FuncData
  oChoicesOf : Df K mg "choices_of" sChoicesOf ["rules", "substances"] fChoicesOf dChoicesOf
  fRatioOf : Addr
  dRatioOf : FuncData
  oRatioOf : Df K mg "ratio_of" sRatioOf ["rules", "substances", "i", "j"] fRatioOf dRatioOf
  fMoreBy : Addr
  dMoreBy : FuncData
  oMoreBy : Df K mg "more_by" sMoreBy ["first", "other", "s"] fMoreBy dMoreBy
  fLevelOf : Addr
  dLevelOf : FuncData
  oLevelOf : Df K mg "level_of" sLevelOf ["rules", "substances", "s"] fLevelOf dLevelOf
  fStepsForwards : Addr
  dStepsForwards : FuncData
  oStepsForwards : Df K mg "steps_forwards" sStepsForwards ["rules"] fStepsForwards dStepsForwards
  fStepsBothWays : Addr
  dStepsBothWays : FuncData
  oStepsBothWays : Df K mg "steps_both_ways" sStepsBothWays ["rules"] fStepsBothWays dStepsBothWays
  fAllComeTo : Addr
  dAllComeTo : FuncData
  oAllComeTo : Df K mg "all_come_to" sAllComeTo ["steps", "start"] fAllComeTo dAllComeTo
  fStays : Addr
  dStays : FuncData
  oStays : Df K mg "stays" sStays ["rules", "mixture"] fStays dStays
  fNumbersStaying : Addr
  dNumbersStaying : FuncData
  oNumbersStaying : Df K mg "numbers_staying" sNumbersStaying ["rules"] fNumbersStaying dNumbersStaying
  fClassesOf : Addr
  dClassesOf : FuncData
  oClassesOf : Df K mg "classes_of" sClassesOf ["rules"] fClassesOf dClassesOf
  fHowManyHidden : Addr
  dHowManyHidden : FuncData
  oHowManyHidden : Df K mg "how_many_hidden" sHowManyHidden ["rules", "substances"] fHowManyHidden dHowManyHidden
  fMoreOf : Addr
  dMoreOf : FuncData
  oMoreOf : Df K mg "more_of" sMoreOf ["first", "other"] fMoreOf dMoreOf
  fPairsOf : Addr
  dPairsOf : FuncData
  oPairsOf : Df K mg "pairs_of" sPairsOf ["rules", "substances"] fPairsOf dPairsOf
  fSubstancesPaired : Addr
  dSubstancesPaired : FuncData
  oSubstancesPaired : Df K mg "substances_paired" sSubstancesPaired ["rules", "substances"] fSubstancesPaired dSubstancesPaired
  fMakesPoint : Addr
  dMakesPoint : FuncData
  oMakesPoint : Df K mg "makes_point" sMakesPoint ["row", "substances"] fMakesPoint dMakesPoint
  fAmountsAt : Addr
  dAmountsAt : FuncData
  oAmountsAt : Df K mg "amounts_at" sAmountsAt ["row"] fAmountsAt dAmountsAt
  fWeightOf : Addr
  dWeightOf : FuncData
  oWeightOf : Df K mg "weight_of" sWeightOf ["mixture", "amounts"] fWeightOf dWeightOf
  fChangeOf : Addr
  dChangeOf : FuncData
  oChangeOf : Df K mg "change_of" sChangeOf ["rules", "amounts", "s"] fChangeOf dChangeOf
  fIsSteady : Addr
  dIsSteady : FuncData
  oIsSteady : Df K mg "is_steady" sIsSteady ["rules", "amounts"] fIsSteady dIsSteady
  fIsMet : Addr
  dIsMet : FuncData
  oIsMet : Df K mg "is_met" sIsMet ["rules", "amounts"] fIsMet dIsMet
  fMakesRule : Addr
  dMakesRule : FuncData
  oMakesRule : Df K mg "makes_rule" sMakesRule ["row", "substances"] fMakesRule dMakesRule
  fMakesSpeed : Addr
  dMakesSpeed : FuncData
  oMakesSpeed : Df K mg "makes_speed" sMakesSpeed ["a", "b"] fMakesSpeed dMakesSpeed
  fRulesAt : Addr
  dRulesAt : FuncData
  oRulesAt : Df K mg "rules_at" sRulesAt ["rules", "j", "speed"] fRulesAt dRulesAt
  fLevelTold : Addr
  dLevelTold : FuncData
  oLevelTold : Df K mg "level_told" sLevelTold ["rules", "substances", "s"] fLevelTold dLevelTold
  fVesselInit : Addr
  dVesselInit : FuncData
  oVesselInit : Dm K "__init__" "Vessel.__init__" sVesselInit ["self"] fVesselInit dVesselInit
  fVesselHasBegun : Addr
  dVesselHasBegun : FuncData
  oVesselHasBegun : Dm K "has_begun" "Vessel.has_begun" sVesselHasBegun ["self"] fVesselHasBegun dVesselHasBegun
  mVesselHasBegun : Meth K C "has_begun" fVesselHasBegun
  fVesselHasRule : Addr
  dVesselHasRule : FuncData
  oVesselHasRule : Dm K "has_rule" "Vessel.has_rule" sVesselHasRule ["self", "left", "right"] fVesselHasRule dVesselHasRule
  mVesselHasRule : Meth K C "has_rule" fVesselHasRule
  fVesselBegin : Addr
  dVesselBegin : FuncData
  oVesselBegin : Dm K "begin" "Vessel.begin" sVesselBegin ["self", "n"] fVesselBegin dVesselBegin
  mVesselBegin : Meth K C "begin" fVesselBegin
  fVesselRule : Addr
  dVesselRule : FuncData
  oVesselRule : Dm K "rule" "Vessel.rule" sVesselRule ["self", "row"] fVesselRule dVesselRule
  mVesselRule : Meth K C "rule" fVesselRule
  fVesselUnrule : Addr
  dVesselUnrule : FuncData
  oVesselUnrule : Dm K "unrule" "Vessel.unrule" sVesselUnrule ["self", "j"] fVesselUnrule dVesselUnrule
  mVesselUnrule : Meth K C "unrule" fVesselUnrule
  fVesselRuleis : Addr
  dVesselRuleis : FuncData
  oVesselRuleis : Dm K "ruleis" "Vessel.ruleis" sVesselRuleis ["self", "j"] fVesselRuleis dVesselRuleis
  mVesselRuleis : Meth K C "ruleis" fVesselRuleis
  fVesselSpeed : Addr
  dVesselSpeed : FuncData
  oVesselSpeed : Dm K "speed" "Vessel.speed" sVesselSpeed ["self", "j", "a", "b"] fVesselSpeed dVesselSpeed
  mVesselSpeed : Meth K C "speed" fVesselSpeed
  fVesselLefts : Addr
  dVesselLefts : FuncData
  oVesselLefts : Dm K "lefts" "Vessel.lefts" sVesselLefts ["self"] fVesselLefts dVesselLefts
  mVesselLefts : Meth K C "lefts" fVesselLefts
  fVesselRelations : Addr
  dVesselRelations : FuncData
  oVesselRelations : Dm K "relations" "Vessel.relations" sVesselRelations ["self"] fVesselRelations dVesselRelations
  mVesselRelations : Meth K C "relations" fVesselRelations
  fVesselRatio : Addr
  dVesselRatio : FuncData
  oVesselRatio : Dm K "ratio" "Vessel.ratio" sVesselRatio ["self", "i", "j"] fVesselRatio dVesselRatio
  mVesselRatio : Meth K C "ratio" fVesselRatio
  fVesselLevel : Addr
  dVesselLevel : FuncData
  oVesselLevel : Dm K "level" "Vessel.level" sVesselLevel ["self", "s"] fVesselLevel dVesselLevel
  mVesselLevel : Meth K C "level" fVesselLevel
  fVesselIfspeed : Addr
  dVesselIfspeed : FuncData
  oVesselIfspeed : Dm K "ifspeed" "Vessel.ifspeed" sVesselIfspeed ["self", "j", "a", "b", "s"] fVesselIfspeed dVesselIfspeed
  mVesselIfspeed : Meth K C "ifspeed" fVesselIfspeed
  fVesselPairs : Addr
  dVesselPairs : FuncData
  oVesselPairs : Dm K "pairs" "Vessel.pairs" sVesselPairs ["self"] fVesselPairs dVesselPairs
  mVesselPairs : Meth K C "pairs" fVesselPairs
  fVesselSame : Addr
  dVesselSame : FuncData
  oVesselSame : Dm K "same" "Vessel.same" sVesselSame ["self"] fVesselSame dVesselSame
  mVesselSame : Meth K C "same" fVesselSame
  fVesselEnds : Addr
  dVesselEnds : FuncData
  oVesselEnds : Dm K "ends" "Vessel.ends" sVesselEnds ["self"] fVesselEnds dVesselEnds
  mVesselEnds : Meth K C "ends" fVesselEnds
  fVesselHides : Addr
  dVesselHides : FuncData
  oVesselHides : Dm K "hides" "Vessel.hides" sVesselHides ["self"] fVesselHides dVesselHides
  mVesselHides : Meth K C "hides" fVesselHides
  fVesselWeight : Addr
  dVesselWeight : FuncData
  oVesselWeight : Dm K "weight" "Vessel.weight" sVesselWeight ["self", "i", "row"] fVesselWeight dVesselWeight
  mVesselWeight : Meth K C "weight" fVesselWeight
  fVesselSteady : Addr
  dVesselSteady : FuncData
  oVesselSteady : Dm K "steady" "Vessel.steady" sVesselSteady ["self", "row"] fVesselSteady dVesselSteady
  mVesselSteady : Meth K C "steady" fVesselSteady
  fVesselMet : Addr
  dVesselMet : FuncData
  oVesselMet : Dm K "met" "Vessel.met" sVesselMet ["self", "row"] fVesselMet dVesselMet
  mVesselMet : Meth K C "met" fVesselMet
  fNumbersAt : Addr
  dNumbersAt : FuncData
  oNumbersAt : Df K mg "numbers_at" sNumbersAt ["calls", "place"] fNumbersAt dNumbersAt
  fRowAt : Addr
  dRowAt : FuncData
  oRowAt : Df K mg "row_at" sRowAt ["calls", "place"] fRowAt dRowAt
  fPlaceBehind : Addr
  dPlaceBehind : FuncData
  oPlaceBehind : Df K mg "place_behind" sPlaceBehind ["calls", "place"] fPlaceBehind dPlaceBehind
  fAnswerOnRules : Addr
  dAnswerOnRules : FuncData
  oAnswerOnRules : Df K mg "answer_on_rules" sAnswerOnRules ["vessel", "call", "numbers", "row"] fAnswerOnRules dAnswerOnRules
  fAnswerBySums : Addr
  dAnswerBySums : FuncData
  oAnswerBySums : Df K mg "answer_by_sums" sAnswerBySums ["vessel", "call", "numbers"] fAnswerBySums dAnswerBySums
  fAnswerByKnot : Addr
  dAnswerByKnot : FuncData
  oAnswerByKnot : Df K mg "answer_by_knot" sAnswerByKnot ["vessel", "call"] fAnswerByKnot dAnswerByKnot
  fAnswerAtPoint : Addr
  dAnswerAtPoint : FuncData
  oAnswerAtPoint : Df K mg "answer_at_point" sAnswerAtPoint ["vessel", "call", "numbers", "row"] fAnswerAtPoint dAnswerAtPoint
  fAnswer : Addr
  dAnswer : FuncData
  oAnswer : Df K mg "answer" sAnswer ["vessel", "call", "numbers", "row"] fAnswer dAnswer
  fAnswers : Addr
  dAnswers : FuncData
  oAnswers : Df K mg "answers" sAnswers ["calls"] fAnswers dAnswers
  aZERO : Addr
  gZERO : mg "ZERO" = some (.ref aZERO)
  kZERO : ∀ H, SqT K H aZERO [.int (0), .int (1)]
  aONE : Addr
  gONE : mg "ONE" = some (.ref aONE)
  kONE : ∀ H, SqT K H aONE [.int (1), .int (1)]
  cMOST_DIVISOR : ∃ t, mg "MOST_DIVISOR" = some (.int (60) t)
  cMOST_NUMBER : ∃ t, mg "MOST_NUMBER" = some (.int (1000) t)
  cNO_SUCH : ∃ t, mg "NO_SUCH" = some (.int (-2) t)
  cNOT_BEGUN : ∃ t, mg "NOT_BEGUN" = some (.int (-11) t)
  cRULE_IS_THERE : ∃ t, mg "RULE_IS_THERE" = some (.int (-17) t)
  cWRONG : ∃ t, mg "WRONG" = some (.int (-22) t)
  cTOO_MANY_RULES : ∃ t, mg "TOO_MANY_RULES" = some (.int (-28) t)
  cNOT_TOLD : ∃ t, mg "NOT_TOLD" = some (.int (-33) t)
  cMOST_SUBSTANCES : ∃ t, mg "MOST_SUBSTANCES" = some (.int (4) t)
  cMOST_OF_ONE : ∃ t, mg "MOST_OF_ONE" = some (.int (3) t)
  cMOST_RULES : ∃ t, mg "MOST_RULES" = some (.int (8) t)
  cMOST_IN_SPEED : ∃ t, mg "MOST_IN_SPEED" = some (.int (1000) t)
  cBEGIN : ∃ t, mg "BEGIN" = some (.int (0) t)
  cRULE : ∃ t, mg "RULE" = some (.int (1) t)
  cUNRULE : ∃ t, mg "UNRULE" = some (.int (2) t)
  cRULEIS : ∃ t, mg "RULEIS" = some (.int (3) t)
  cSPEED : ∃ t, mg "SPEED" = some (.int (4) t)
  cLEFTS : ∃ t, mg "LEFTS" = some (.int (5) t)
  cRELATIONS : ∃ t, mg "RELATIONS" = some (.int (6) t)
  cRATIO : ∃ t, mg "RATIO" = some (.int (7) t)
  cLEVEL : ∃ t, mg "LEVEL" = some (.int (8) t)
  cIFSPEED : ∃ t, mg "IFSPEED" = some (.int (9) t)
  cPAIRS : ∃ t, mg "PAIRS" = some (.int (10) t)
  cSAME : ∃ t, mg "SAME" = some (.int (11) t)
  cENDS : ∃ t, mg "ENDS" = some (.int (12) t)
  cHIDES : ∃ t, mg "HIDES" = some (.int (13) t)
  cWEIGHT : ∃ t, mg "WEIGHT" = some (.int (14) t)
  cSTEADY : ∃ t, mg "STEADY" = some (.int (15) t)
  aNUMBERS : Addr
  gNUMBERS : mg "NUMBERS" = some (.ref aNUMBERS)
  kNUMBERS : ∀ H, SqT K H aNUMBERS [.int (1), .int (0), .int (1), .int (1), .int (3), .int (0), .int (0), .int (2), .int (1), .int (4), .int (0), .int (0), .int (0), .int (0), .int (1), .int (0), .int (0)]
  aWITH_ROW : Addr
  gWITH_ROW : mg "WITH_ROW" = some (.ref aWITH_ROW)
  kWITH_ROW : ∀ H, SqT K H aWITH_ROW [.int (1), .int (14), .int (15), .int (16)]
  len : mg "len" = none
  abs : mg "abs" = none
  range : mg "range" = none
  max : mg "max" = none
  list : mg "list" = none
  tuple : mg "tuple" = none
  cl : Cls K C
  nS : NoAttr K C "substances"
  nR : NoAttr K C "rules"
  gC : mg "Vessel" = some (.ref C)
  mkC : Mk K C fVesselInit
section
variable {X : Cx}
theorem pe_gi {x : Str} {i : Int} {pos : Pos} (h : ∃ t, X.mg x = some (.int i t)) (hg : Gl X x := by rfl) (hd : (x == ("__debug__" : Str)) = false := by decide) : PE X (.Name x pos) (tC (.int i)) := by
  obtain ⟨t, h⟩ := h
  exact pe_glob hg h ⟨_, rfl⟩ hd
theorem pe_gr {x : Str} {a : Addr} {pos : Pos} (h : X.mg x = some (.ref a)) (hg : Gl X x := by rfl) (hd : (x == ("__debug__" : Str)) = false := by decide) : PE X (.Name x pos) (tC (.ref a)) := pe_glob hg h (show L2.RelV (.ref a) (.ref a) from rfl) hd
theorem ixl (K : PySem.W.Frag) (h : X.K = K := by rfl) : IxR X (rIxL K) := h ▸ ix_list
theorem ixt (K : PySem.W.Frag) (h : X.K = K := by rfl) : IxR X (rIxT K) := h ▸ ix_tup
theorem sll (K : PySem.W.Frag) (h : X.K = K := by rfl) : SlR X (rSlL K) := h ▸ sl_list
theorem eqd (K : PySem.W.Frag) (hu : X.A.units + 64 < cLine) (h : X.K = K := by rfl) : OpR X (compareOp .Eq) (rEqD K) := h ▸ op_eqD hu
theorem ned (K : PySem.W.Frag) (hu : X.A.units + 64 < cLine) (h : X.K = K := by rfl) : OpR X (compareOp .NotEq) (rNeD K) := h ▸ op_neD hu
theorem ind (K : PySem.W.Frag) (hu : X.A.units + 65 < cLine) (h : X.K = K := by rfl) : OpR X (compareOp .In) (rInD K) := h ▸ op_inD hu
theorem notind (K : PySem.W.Frag) (hu : X.A.units + 65 < cLine) (h : X.K = K := by rfl) : OpR X (compareOp .NotIn) (rNotInD K) := h ▸ op_notInD hu
theorem inseq (K : PySem.W.Frag) (h : X.K = K := by rfl) : OpR X (compareOp .In) (rIn K false) := h ▸ op_in_seq
theorem notinseq (K : PySem.W.Frag) (h : X.K = K := by rfl) : OpR X (compareOp .NotIn) (rIn K true) := h ▸ op_notIn_seq
theorem clen (K : PySem.W.Frag) (h : X.K = K := by rfl) : CallR X (.builtin "len") (fun xs H Q => ∃ p ys, xs = [.ref p] ∧ (SqL K H p ys ∨ SqT K H p ys) ∧ Q (.int ys.length) H) := h ▸ call_len_seq
theorem clist (K : PySem.W.Frag) (h : X.K = K := by rfl) : CallR X (.type "list") (fun xs H Q => ∃ p ys, xs = [.ref p] ∧ (SqL K H p ys ∨ SqT K H p ys) ∧ ∀ l, H l = none → Q (.ref l) (upd H l (.lst ys))) := h ▸ call_list_of
theorem ctuple (K : PySem.W.Frag) (h : X.K = K := by rfl) : CallR X (.type "tuple") (fun xs H Q => ∃ p ys, xs = [.ref p] ∧ ((SqL K H p ys ∧ ∀ l, H l = none → Q (.ref l) (upd H l (.tup ys))) ∨ (SqT K H p ys ∧ Q (.ref p) H))) := h ▸ call_tuple_of
theorem mtidx (K : PySem.W.Frag) (h : X.K = K := by rfl) : MtR X "list.index" (rIndex K) := h ▸ mt_index
theorem hu64 {A : Around} {k : Nat} (hr : Room k A) : A.units + 64 < cLine := hr.units
theorem hu65 {A : Around} {k : Nat} (hr : Room k A) : A.units + 65 < cLine := by have := hr.un; omega
end
end Sl

/-! Fractions. -/
namespace Sl
open PySem PySem.Spec PyProof.Rows L2
open Kp340 (Fr Mix Net)
section
variable {P : Program} {w : World} {K : PySem.W.Frag} {mg : Str → Option Value} {base : Heap}
/-! ### common -/
def spCommon : Sp := fun vs H Q _ => ∃ (a b : Nat), vs = [.int (a : Int), .int (b : Int)] ∧ Q (.int ((Nat.gcd a b : Nat) : Int)) H
theorem ok_common (T : Tx K mg) : FnOk P w K mg base CX0 1 T.fCommon T.dCommon ["a", "b"] spCommon := by
  refine T.oCommon.F.ok scCommon (fun vs H Q E h => ?_) (fun cdv A outer s H vs Q E hr h => ?_)
  · obtain ⟨a, b, rfl, _⟩ := h
    rfl
  · obtain ⟨a, b, rfl, q⟩ := h
    refine ⟨_, (pss_cons 
        (ps_while PassesOwn.never (pt_cmpR op_ne (pv 1) pe_int (nomark _))
          (pss_cons 
            (ps_set (i := 2) scCommon.nd rfl (.inl rfl) (pe_op op_mod (pv 0) (pv 1)))
          (pss_cons 
            (ps_set (i := 0) scCommon.nd rfl (.inl rfl) (pv 1))
          (pss_one 
            (ps_set (i := 1) scCommon.nd rfl (.inl rfl) (pv 2))))))
      (pss_one 
        (ps_ret (pv 0)))), ?_⟩
    refine ⟨fun m σ H' => ∃ (x y : Nat) (z : Option V), σ = [some (.int (x : Int)), some (.int (y : Int)), z] ∧ m = y ∧ H' = H ∧ Nat.gcd x y = Nat.gcd a b, ⟨b, a, b, none, rfl, rfl, rfl, rfl⟩, ?_⟩
    rintro m σ H' ⟨x, y, z, rfl, rfl, rfl, e⟩
    refine ⟨_, rfl, rfl, _, rfl, ite2 (fun hc => ?_) (fun hc => ?_)⟩
    · have hy : m ≠ 0 := fun z => by
        subst z
        exact absurd hc (by decide)
      refine ⟨fun σ' H'' => ∃ z, σ' = [some (.int (m : Int)), some (.int ((x % m : Nat) : Int)), z] ∧ H'' = H', fun σ' H'' hN => ?_, ?_⟩
      · obtain ⟨z, rfl, rfl⟩ := hN
        refine ⟨x % m, Nat.mod_lt _ (by omega), m, x % m, z, rfl, rfl, rfl, ?_⟩
        rw [← e, Nat.gcd_comm m, ← Nat.gcd_rec, Nat.gcd_comm]
      · refine ⟨_, rfl, _, rfl, _, _, rfl, rfl, by omega, ?_⟩
        refine ⟨_, rfl, ?_⟩
        refine ⟨_, rfl, ?_⟩
        exact ⟨_, rfl, rfl⟩
    · have hy : m = 0 := by
        have := of_decide_eq_true (by simpa using hc : decide (V.int (m : Int) = V.int 0) = true)
        have := V.int.inj this
        omega
      subst hy
      refine ⟨_, rfl, ?_⟩
      rw [Nat.gcd_zero_right] at e
      rw [e]
      exact q
/-! ### lowest -/
/-- a new tuple that holds a fraction -/
def GivesF (H : Hp) (x : Fr) (Q : VK) : Prop := ∀ H' p, Same H H' → H p = none → H' p = some (.tup [.int x.1, .int x.2]) → Q (.ref p) H'
def spLowest : Sp := fun vs H Q _ => ∃ (t b : Int), vs = [.int t, .int b] ∧ b ≠ 0 ∧ b.natAbs < 2 ^ 8999 ∧ GivesF H (Kp340.fr t b) Q
theorem fr_pos {t b : Int} (h : 0 < b) : Kp340.fr t b = (t / ((Nat.gcd b.natAbs t.natAbs : Nat) : Int), b / ((Nat.gcd b.natAbs t.natAbs : Nat) : Int)) := by
  unfold Kp340.fr
  have hg : Nat.gcd t.natAbs b.natAbs ≠ 0 := fun z => by
    have := (Nat.gcd_eq_zero_iff.mp z).2
    omega
  rw [if_neg hg, Nat.gcd_comm]
  show (if b < 0 then _ else _) = _
  rw [if_neg (by omega)]
theorem ok_lowest (T : Tx K mg) : FnOk P w K mg base CX0 2 T.fLowest T.dLowest ["top", "bottom"] spLowest := by
  refine T.oLowest.F.ok scLowest (fun vs H Q E h => ?_) (fun cdv A outer s H vs Q E hr h => ?_)
  · obtain ⟨a, b, rfl, _⟩ := h
    rfl
  · obtain ⟨t, b, rfl, h0, hb, q⟩ := h
    refine ⟨_, (pss_cons 
        (ps_if (pt_cmpR op_lt (pv 1) pe_int (nomark _))
          (pss_cons 
            (ps_set (i := 0) scLowest.nd rfl (.inl rfl) (pe_un un_neg (pv 0)))
          (pss_one 
            (ps_set (i := 1) scLowest.nd rfl (.inl rfl) (pe_un un_neg (pv 1))))) pss_nil)
      (pss_cons 
        (ps_set (i := 2) scLowest.nd rfl (.inl rfl) (pe_call (ok_common T) (hr.mono (by decide)) (by rfl) T.oCommon.g T.oCommon.F.kp T.oCommon.b .nil pass0 (pa_cons (pv 1) (pa_cons (pe_callB call_abs (by rfl) T.abs PyProof.Rows.boot_abs (pa_cons (pv 0) pa_nil)) pa_nil))))
      (pss_one 
        (ps_ret (pe_tup (pa_cons (pe_op op_fdivW (pv 0) (pv 2)) (pa_cons (pe_op op_fdivW (pv 1) (pv 2)) pa_nil))))))), ?_⟩
    have gp : ∀ (t' b' : Int), 0 < b' → b'.natAbs < 2 ^ 8999 → CDivW t' ((Nat.gcd b'.natAbs t'.natAbs : Nat) : Int) ∧ CDivW b' ((Nat.gcd b'.natAbs t'.natAbs : Nat) : Int) := fun t' b' h1 h2 => by
      have g1 : 0 < Nat.gcd b'.natAbs t'.natAbs := Nat.gcd_pos_of_pos_left _ (by omega)
      have g2 : Nat.gcd b'.natAbs t'.natAbs ≤ b'.natAbs := Nat.le_of_dvd (by omega) (Nat.gcd_dvd_left _ _)
      have g3 : (((Nat.gcd b'.natAbs t'.natAbs : Nat) : Int)).natAbs < 2 ^ 8999 := by
        rw [Int.natAbs_natCast]
        omega
      exact ⟨wide_div (by omega) g3 (by decide) (by decide), wide_div (by omega) g3 (by decide) (by decide)⟩
    have ab : ∀ t' : Int, V.int (if t' < 0 then -t' else t') = V.int ((t'.natAbs : Nat) : Int) := fun t' => by
      refine congrArg V.int ?_
      split <;> omega
    refine ⟨_, rfl, _, _, rfl, rfl, _, rfl, ite2 (fun hc => ?_) (fun hc => ?_)⟩
    · have hc : b < 0 := of_decide_eq_true hc
      refine ⟨_, rfl, _, rfl, ?_⟩
      refine ⟨_, rfl, _, rfl, ?_⟩
      refine ⟨_, rfl, _, rfl, _, rfl, (-b).natAbs, (-t).natAbs, ?_, ?_⟩
      · rw [ab]
        show [V.int (-b), _] = [V.int (((-b).natAbs : Nat) : Int), _]
        rw [show (((-b).natAbs : Nat) : Int) = -b by omega]
      · obtain ⟨c1, c2⟩ := gp (-t) (-b) (by omega) (by omega)
        refine ⟨_, rfl, _, rfl, _, _, rfl, rfl, c1, _, rfl, _, rfl, _, _, rfl, rfl, c2, by show 2 ≤ sizeLine; decide, fun p np => ?_⟩
        refine q _ p (same_upd np) np ?_
        rw [upd_same]
        have e : Kp340.fr t b = Kp340.fr (-t) (-b) := fr_eq h0 (by omega) (by grind)
        rw [e, fr_pos (by omega)]
    · have hc : ¬ b < 0 := fun z => hc (decide_eq_true z)
      refine ⟨_, rfl, _, rfl, _, rfl, b.natAbs, t.natAbs, ?_, ?_⟩
      · rw [ab]
        show [V.int b, _] = [V.int ((b.natAbs : Nat) : Int), _]
        rw [show ((b.natAbs : Nat) : Int) = b by omega]
      · obtain ⟨c1, c2⟩ := gp t b (by omega) hb
        refine ⟨_, rfl, _, rfl, _, _, rfl, rfl, c1, _, rfl, _, rfl, _, _, rfl, rfl, c2, by show 2 ≤ sizeLine; decide, fun p np => ?_⟩
        refine q _ p (same_upd np) np ?_
        rw [upd_same, fr_pos (by omega)]
/-! ### the four -/
def spF2 (K : PySem.W.Frag) (ok : Fr → Fr → Prop) (f : Fr → Fr → Fr) : Sp := fun vs H Q _ => ∃ (x y : V) (p q : Fr), vs = [x, y] ∧ Dp K H x (eF p) ∧ Dp K H y (eF q) ∧ Ok p ∧ Ok q ∧ Small 4000 p ∧ Small 4000 q ∧ ok p q ∧ GivesF H (f p q) Q
theorem wm {i j : Int} (hi : i.natAbs < 2 ^ 4000) (hj : j.natAbs < 2 ^ 4000) : CMulW i j := wide_mul hi hj (by decide) (by decide) (by decide)
theorem at0 {x y : V} : atI [x, y] 0 = some x := atI_nat (j := 0) rfl
theorem at1 {x y : V} : atI [x, y] 1 = some y := atI_nat (j := 1) rfl
theorem below {i : Int} {a : Nat} (h : i.natAbs < 2 ^ a) (l : a ≤ 8999) : i.natAbs < 2 ^ 8999 := lt_mono h l
theorem ok_plus (T : Tx K mg) : FnOk P w K mg base CX0 3 T.fPlus T.dPlus ["p", "q"] (spF2 K (fun _ _ => True) plusP) := by
  refine T.oPlus.F.ok scPlus (fun vs H Q E h => ?_) (fun cdv A outer s H vs Q E hr h => ?_)
  · obtain ⟨x, y, p, q, rfl, _⟩ := h
    rfl
  · obtain ⟨x, y, p, q, rfl, hx, hy, op, oq, sp, sq, _, k⟩ := h
    obtain ⟨a, rfl, ha⟩ := Dp_F hx
    obtain ⟨b, rfl, hb⟩ := Dp_F hy
    refine ⟨_, (pss_one 
        (ps_ret (pe_call (ok_lowest T) (hr.mono (by decide)) (by rfl) T.oLowest.g T.oLowest.F.kp T.oLowest.b .nil pass0 (pa_cons (pe_op op_add (pe_op op_mulW (pe_ix (ixt K) (pv 0) pe_int (fun _ _ => rfl)) (pe_ix (ixt K) (pv 1) pe_int (fun _ _ => rfl))) (pe_op op_mulW (pe_ix (ixt K) (pv 1) pe_int (fun _ _ => rfl)) (pe_ix (ixt K) (pv 0) pe_int (fun _ _ => rfl)))) (pa_cons (pe_op op_mulW (pe_ix (ixt K) (pv 0) pe_int (fun _ _ => rfl)) (pe_ix (ixt K) (pv 1) pe_int (fun _ _ => rfl))) pa_nil))))), ?_⟩
    exact ⟨_, rfl, a, _, 0, _, rfl, rfl, ha, at0, _, rfl, b, _, 1, _, rfl, rfl, hb, at1, _, _, rfl, rfl, wm sp.1 sq.2,
      _, rfl, b, _, 0, _, rfl, rfl, hb, at0, _, rfl, a, _, 1, _, rfl, rfl, ha, at1, _, _, rfl, rfl, wm sq.1 sp.2, _, _, rfl, rfl,
      _, rfl, a, _, 1, _, rfl, rfl, ha, at1, _, rfl, b, _, 1, _, rfl, rfl, hb, at1, _, _, rfl, rfl, wm sp.2 sq.2,
      _, _, rfl, mulne op.ne oq.ne, below (lt_mul sp.2 sq.2) (by decide), k⟩
theorem ok_minus (T : Tx K mg) : FnOk P w K mg base CX0 3 T.fMinus T.dMinus ["p", "q"] (spF2 K (fun _ _ => True) minusP) := by
  refine T.oMinus.F.ok scMinus (fun vs H Q E h => ?_) (fun cdv A outer s H vs Q E hr h => ?_)
  · obtain ⟨x, y, p, q, rfl, _⟩ := h
    rfl
  · obtain ⟨x, y, p, q, rfl, hx, hy, op, oq, sp, sq, _, k⟩ := h
    obtain ⟨a, rfl, ha⟩ := Dp_F hx
    obtain ⟨b, rfl, hb⟩ := Dp_F hy
    refine ⟨_, (pss_one 
        (ps_ret (pe_call (ok_lowest T) (hr.mono (by decide)) (by rfl) T.oLowest.g T.oLowest.F.kp T.oLowest.b .nil pass0 (pa_cons (pe_op op_sub (pe_op op_mulW (pe_ix (ixt K) (pv 0) pe_int (fun _ _ => rfl)) (pe_ix (ixt K) (pv 1) pe_int (fun _ _ => rfl))) (pe_op op_mulW (pe_ix (ixt K) (pv 1) pe_int (fun _ _ => rfl)) (pe_ix (ixt K) (pv 0) pe_int (fun _ _ => rfl)))) (pa_cons (pe_op op_mulW (pe_ix (ixt K) (pv 0) pe_int (fun _ _ => rfl)) (pe_ix (ixt K) (pv 1) pe_int (fun _ _ => rfl))) pa_nil))))), ?_⟩
    exact ⟨_, rfl, a, _, 0, _, rfl, rfl, ha, at0, _, rfl, b, _, 1, _, rfl, rfl, hb, at1, _, _, rfl, rfl, wm sp.1 sq.2,
      _, rfl, b, _, 0, _, rfl, rfl, hb, at0, _, rfl, a, _, 1, _, rfl, rfl, ha, at1, _, _, rfl, rfl, wm sq.1 sp.2, _, _, rfl, rfl,
      _, rfl, a, _, 1, _, rfl, rfl, ha, at1, _, rfl, b, _, 1, _, rfl, rfl, hb, at1, _, _, rfl, rfl, wm sp.2 sq.2,
      _, _, rfl, mulne op.ne oq.ne, below (lt_mul sp.2 sq.2) (by decide), k⟩
theorem ok_times (T : Tx K mg) : FnOk P w K mg base CX0 3 T.fTimes T.dTimes ["p", "q"] (spF2 K (fun _ _ => True) timesP) := by
  refine T.oTimes.F.ok scTimes (fun vs H Q E h => ?_) (fun cdv A outer s H vs Q E hr h => ?_)
  · obtain ⟨x, y, p, q, rfl, _⟩ := h
    rfl
  · obtain ⟨x, y, p, q, rfl, hx, hy, op, oq, sp, sq, _, k⟩ := h
    obtain ⟨a, rfl, ha⟩ := Dp_F hx
    obtain ⟨b, rfl, hb⟩ := Dp_F hy
    refine ⟨_, (pss_one 
        (ps_ret (pe_call (ok_lowest T) (hr.mono (by decide)) (by rfl) T.oLowest.g T.oLowest.F.kp T.oLowest.b .nil pass0 (pa_cons (pe_op op_mulW (pe_ix (ixt K) (pv 0) pe_int (fun _ _ => rfl)) (pe_ix (ixt K) (pv 1) pe_int (fun _ _ => rfl))) (pa_cons (pe_op op_mulW (pe_ix (ixt K) (pv 0) pe_int (fun _ _ => rfl)) (pe_ix (ixt K) (pv 1) pe_int (fun _ _ => rfl))) pa_nil))))), ?_⟩
    exact ⟨_, rfl, a, _, 0, _, rfl, rfl, ha, at0, _, rfl, b, _, 0, _, rfl, rfl, hb, at0, _, _, rfl, rfl, wm sp.1 sq.1,
      _, rfl, a, _, 1, _, rfl, rfl, ha, at1, _, rfl, b, _, 1, _, rfl, rfl, hb, at1, _, _, rfl, rfl, wm sp.2 sq.2,
      _, _, rfl, mulne op.ne oq.ne, below (lt_mul sp.2 sq.2) (by decide), k⟩
theorem ok_over (T : Tx K mg) : FnOk P w K mg base CX0 3 T.fOver T.dOver ["p", "q"] (spF2 K (fun _ q => q.1 ≠ 0) overP) := by
  refine T.oOver.F.ok scOver (fun vs H Q E h => ?_) (fun cdv A outer s H vs Q E hr h => ?_)
  · obtain ⟨x, y, p, q, rfl, _⟩ := h
    rfl
  · obtain ⟨x, y, p, q, rfl, hx, hy, op, oq, sp, sq, n0, k⟩ := h
    obtain ⟨a, rfl, ha⟩ := Dp_F hx
    obtain ⟨b, rfl, hb⟩ := Dp_F hy
    refine ⟨_, (pss_one 
        (ps_ret (pe_call (ok_lowest T) (hr.mono (by decide)) (by rfl) T.oLowest.g T.oLowest.F.kp T.oLowest.b .nil pass0 (pa_cons (pe_op op_mulW (pe_ix (ixt K) (pv 0) pe_int (fun _ _ => rfl)) (pe_ix (ixt K) (pv 1) pe_int (fun _ _ => rfl))) (pa_cons (pe_op op_mulW (pe_ix (ixt K) (pv 0) pe_int (fun _ _ => rfl)) (pe_ix (ixt K) (pv 1) pe_int (fun _ _ => rfl))) pa_nil))))), ?_⟩
    exact ⟨_, rfl, a, _, 0, _, rfl, rfl, ha, at0, _, rfl, b, _, 1, _, rfl, rfl, hb, at1, _, _, rfl, rfl, wm sp.1 sq.2,
      _, rfl, a, _, 1, _, rfl, rfl, ha, at1, _, rfl, b, _, 0, _, rfl, rfl, hb, at0, _, _, rfl, rfl, wm sp.2 sq.1,
      _, _, rfl, mulne op.ne n0, below (lt_mul sp.2 sq.1) (by decide), k⟩
end
end Sl

/-! Words for lists: what a comprehension makes, deep equality. -/
namespace Sl
open PySem PySem.Spec PyProof.Rows L2
open Kp340 (Fr Mix Net)
section
variable {K : PySem.W.Frag}
/-- a new list of data -/
def GivesL (K : PySem.W.Frag) (H : Hp) (ds : List PyData) (Q : VK) : Prop := ∀ H' p xs, Same H H' → H p = none → H' p = some (.lst xs) → DpAll K H' xs ds → Q (.ref p) H'
theorem GivesL.at {H : Hp} {ds : List PyData} {Q : VK} (q : GivesL K H ds Q) {D : Addr} (hD : H D = none) : ∀ H' xs, Same H H' → H' D = some (.lst xs) → DpAll K H' xs ds → Q (.ref D) H' := fun H' xs s h1 h2 => q H' D xs s hD h1 h2
theorem gF {H3 : Hp} {D : Addr} {acc : List V} {x : Fr} {Q' : VK} (hD : H3 D = some (.lst acc)) (k : ∀ H4 y, Same H3 H4 → Dp K (hide H4 D) y (eF x) → Q' y H4) : GivesF H3 x Q' := fun H4 p s np hp =>
  k H4 _ s (Dp_keepF (keepT_hide (notup_lst (s _ _ hD))) (F_of hp))
theorem gL {H3 : Hp} {D : Addr} {acc : List V} {ds : List PyData} {Q' : VK} (t : tupAll ds = true) (hD : H3 D = some (.lst acc)) (k : ∀ H4 y, Same H3 H4 → Dp K (hide H4 D) y (.list ds) → Q' y H4) : GivesL K H3 ds Q' := fun H4 p xs s np hp hx =>
  k H4 _ s (.lst (SqL.of (by rw [hide_ne (fun e => by rw [e, hD] at np; cases np)]; exact hp)) (DpAll_tup (keepT_hide (notup_lst (s _ _ hD))) _ _ t hx))
theorem wipe_one {σ : L2.St} {i : Nat} {x : Option V} : wipe ((wipe σ [i]).set i x) [i] = wipe σ [i] := by
  show ((σ.set i none).set i x).set i none = σ.set i none
  rw [List.set_set, List.set_set]
theorem take_at {α : Type} {l : List α} {k : Nat} {x : α} (h : l[k]? = some x) : l.take (k + 1) = l.take k ++ [x] := by
  rw [List.take_add_one, h]
  rfl
theorem same_mut {H H4 : Hp} {D : Addr} {o : HO} (s : Same H H4) (hD : H D = none) : Same H (upd H4 D o) := fun b x e => by
  rw [upd_ne (ne_of_none e hD)]
  exact s b x e
/-- [e for x in xs]: a new list of what e gives, item by item -/
theorem lc_map {a D : Addr} {xs : List V} {te : TE} {i : Nat} {σ : L2.St} {H : Hp} {ds : List PyData} {Qd : Hp → Prop} (hS : SqL K H a xs) (len : xs.length = ds.length) (small : ds.length < sizeLine) (hD : H D = none)
    (turn : ∀ (k : Nat) (x : V) (d : PyData) (H3 : Hp) (acc : List V), xs[k]? = some x → ds[k]? = some d → Same H H3 → H3 D = some (.lst acc) → ∀ Q' : VK, (∀ H4 y, Same H3 H4 → Dp K (hide H4 D) y d → Q' y H4) → te ((wipe σ [i]).set i (some x)) H3 Q')
    (fin : ∀ H' xs, Same H H' → H' D = some (.lst xs) → DpAll K H' xs ds → Qd H') : ∃ W : Nat → Nat → Hp → Prop, (∃ m, W 0 m (upd H D (.lst []))) ∧ ∀ k m H, W k m H →
      ((Itl K a).stop k H ∧ Qd H) ∨ ((Itl K a).go k H ∧ ∃ Nx : Hp → Prop, (∀ H', Nx H' → ∃ m', m' < m ∧ W (k + 1) m' H') ∧ ∀ x H', (Itl K a).yld k H x H' → gName i x (wipe σ [i]) H' fun σ2 H2 => wipe σ2 [i] = wipe σ [i] ∧ tYes σ2 H2 fun b H3 =>
        if b = true then te σ2 H3 fun y H4 => ∃ acc, H4 D = some (.lst acc) ∧ acc.length < sizeLine ∧ Nx (upd H4 D (.lst (acc ++ [y]))) else Nx H3) := by
  refine lc_list (K := K) (a := a) (xs := xs) (fun k H' => Same H H' ∧ ∃ acc, H' D = some (.lst acc) ∧ DpAll K (hide H' D) acc (ds.take k)) ⟨same_upd hD, [], upd_same, .nil⟩ (fun k H' _ h => Same.seq h.1 hS) ?_ ?_
  · rintro k x H' hx ⟨s, acc, hA, hds⟩
    have hk : k < ds.length := by
      rw [← len]
      exact (List.getElem?_eq_some_iff.mp hx).1
    refine ⟨wipe_one, ?_⟩
    refine turn k x ds[k] H' acc hx (List.getElem?_eq_getElem hk) s hA _ fun H4 y s4 hy => ?_
    have el := DpAll_len hds
    rw [List.length_take] at el
    refine ⟨acc, s4 _ _ hA, by omega, same_mut (s.trans s4) hD, acc ++ [y], upd_same, ?_⟩
    rw [hide_upd, take_at (List.getElem?_eq_getElem hk)]
    exact DpAll_app (DpAll_mono (hide_same s4 D) _ _ hds) (DpAll_one hy)
  · rintro H' ⟨s, acc, hA, hds⟩
    rw [len, List.take_length] at hds
    exact fin H' acc s hA (DpAll_mono (hide_sub _ _) _ _ hds)
/-- [e for k in range(n)] -/
theorem lc_mapR {D : Addr} {n : Nat} {te : TE} {i : Nat} {σ : L2.St} {H : Hp} {ds : List PyData} {Qd : Hp → Prop} (len : n = ds.length) (small : ds.length < sizeLine) (hD : H D = none)
    (turn : ∀ (k : Nat) (d : PyData) (H3 : Hp) (acc : List V), k < n → ds[k]? = some d → Same H H3 → H3 D = some (.lst acc) → ∀ Q' : VK, (∀ H4 y, Same H3 H4 → Dp K (hide H4 D) y d → Q' y H4) → te ((wipe σ [i]).set i (some (.int (k : Int)))) H3 Q')
    (fin : ∀ H' xs, Same H H' → H' D = some (.lst xs) → DpAll K H' xs ds → Qd H') : ∃ W : Nat → Nat → Hp → Prop, (∃ m, W 0 m (upd H D (.lst []))) ∧ ∀ k m H, W k m H →
      ((Itr 0 n).stop k H ∧ Qd H) ∨ ((Itr 0 n).go k H ∧ ∃ Nx : Hp → Prop, (∀ H', Nx H' → ∃ m', m' < m ∧ W (k + 1) m' H') ∧ ∀ x H', (Itr 0 n).yld k H x H' → gName i x (wipe σ [i]) H' fun σ2 H2 => wipe σ2 [i] = wipe σ [i] ∧ tYes σ2 H2 fun b H3 =>
        if b = true then te σ2 H3 fun y H4 => ∃ acc, H4 D = some (.lst acc) ∧ acc.length < sizeLine ∧ Nx (upd H4 D (.lst (acc ++ [y]))) else Nx H3) := by
  refine lc_range (fun k H' => Same H H' ∧ ∃ acc, H' D = some (.lst acc) ∧ DpAll K (hide H' D) acc (ds.take k)) ⟨same_upd hD, [], upd_same, .nil⟩ ?_ ?_
  · rintro k H' hx ⟨s, acc, hA, hds⟩
    have hk : k < ds.length := by omega
    rw [Int.zero_add]
    refine ⟨wipe_one, ?_⟩
    refine turn k ds[k] H' acc hx (List.getElem?_eq_getElem hk) s hA _ fun H4 y s4 hy => ?_
    have el := DpAll_len hds
    rw [List.length_take] at el
    refine ⟨acc, s4 _ _ hA, by omega, same_mut (s.trans s4) hD, acc ++ [y], upd_same, ?_⟩
    rw [hide_upd, take_at (List.getElem?_eq_getElem hk)]
    exact DpAll_app (DpAll_mono (hide_same s4 D) _ _ hds) (DpAll_one hy)
  · rintro H' ⟨s, acc, hA, hds⟩
    rw [len, List.take_length] at hds
    exact fin H' acc s hA (DpAll_mono (hide_sub _ _) _ _ hds)
/-- [k for k in range(n) if t] -/
theorem lc_filtR {D : Addr} {n : Nat} {tt : TT} {i : Nat} {σ : L2.St} {H : Hp} {p : Nat → Bool} {Qd : Hp → Prop} (small : n < sizeLine) (hi : i < σ.length) (hD : H D = none)
    (test : ∀ (k : Nat) (H3 : Hp), k < n → Same H H3 → ∀ Q' : Bool → Hp → Prop, Q' (p k) H3 → tt ((wipe σ [i]).set i (some (.int (k : Int)))) H3 Q')
    (fin : ∀ H' xs, Same H H' → H' D = some (.lst xs) → DpAll K H' xs (((List.range n).filter p).map fun (k : Nat) => PyData.int (k : Int)) → Qd H') : ∃ W : Nat → Nat → Hp → Prop, (∃ m, W 0 m (upd H D (.lst []))) ∧ ∀ k m H, W k m H →
      ((Itr 0 n).stop k H ∧ Qd H) ∨ ((Itr 0 n).go k H ∧ ∃ Nx : Hp → Prop, (∀ H', Nx H' → ∃ m', m' < m ∧ W (k + 1) m' H') ∧ ∀ x H', (Itr 0 n).yld k H x H' → gName i x (wipe σ [i]) H' fun σ2 H2 => wipe σ2 [i] = wipe σ [i] ∧ tt σ2 H2 fun b H3 =>
        if b = true then tVar i σ2 H3 fun y H4 => ∃ acc, H4 D = some (.lst acc) ∧ acc.length < sizeLine ∧ Nx (upd H4 D (.lst (acc ++ [y]))) else Nx H3) := by
  refine lc_range (fun k H' => H' = upd H D (.lst (((List.range k).filter p).map fun (j : Nat) => V.int (j : Int)))) rfl ?_ ?_
  · rintro k H' hk rfl
    rw [Int.zero_add]
    refine ⟨wipe_one, test k _ hk (same_upd hD) _ ?_⟩
    have er : (List.range (k + 1)).filter p = (List.range k).filter p ++ if p k = true then [k] else [] := by
      rw [List.range_succ, List.filter_append, List.filter_cons, List.filter_nil]
    refine ite2 (fun hp => ?_) (fun hp => ?_)
    · refine ⟨_, by rw [List.getElem?_set_self (by rw [wipe_length]; exact hi)], _, upd_same, ?_, ?_⟩
      · rw [List.length_map]
        have := List.length_filter_le p (List.range k)
        rw [List.length_range] at this
        omega
      · rw [er, if_pos hp, List.map_append]
        funext b
        unfold upd
        split <;> rfl
    · rw [er, if_neg hp, List.append_nil]
  · rintro H' rfl
    refine fin _ _ (same_upd hD) upd_same ?_
    have := DpInts (K := K) (H := upd H D (.lst (((List.range n).filter p).map fun (j : Nat) => V.int (j : Int)))) (((List.range n).filter p).map fun (j : Nat) => (j : Int))
    rw [List.map_map, List.map_map] at this
    exact this
end
/-! ### deep equality of the program's data -/
theorem eqv_F (a b : Fr) : PyData.eqv (eF a) (eF b) = decide (a = b) := by
  show ((a.1 == b.1) && ((a.2 == b.2) && true)) = decide (a = b)
  rw [Bool.and_true]
  by_cases h : a = b
  · subst h
    rw [decide_eq_true rfl, beq_self_eq_true, beq_self_eq_true]
    rfl
  · rw [decide_eq_false h]
    by_cases h1 : a.1 = b.1
    · have h2 : a.2 ≠ b.2 := fun z => h (Prod.ext h1 z)
      rw [beq_eq_false_iff_ne.mpr h2, Bool.and_false]
    · rw [beq_eq_false_iff_ne.mpr h1, Bool.false_and]
theorem shaped_F (a : Fr) : SeqAt.shaped (eF a) = true := rfl
theorem atI_of {xs : List V} {k : Nat} {v : V} (h : xs[k]? = some v) : atI xs (k : Int) = some v := atI_nat h
end Sl

/-! Relations: the defs of the module relation. -/
namespace Sl
open PySem PySem.Spec PyProof.Rows L2
open Kp340 (Fr Mix Net)
section
variable {P : Program} {w : World} {K : PySem.W.Frag} {mg : Str → Option Value} {base : Heap}
theorem zeroD (T : Tx K mg) (H : Hp) : Dp K H (.ref T.aZERO) (eF (0, 1)) := .tup (T.kZERO H) (DpInts [0, 1])
theorem oneD (T : Tx K mg) (H : Hp) : Dp K H (.ref T.aONE) (eF (1, 1)) := .tup (T.kONE H) (DpInts [1, 1])
theorem small62 {n : Nat} (h : n ≤ 1000) : -(2 ^ 62 : Int) ≤ (n : Int) ∧ (n : Int) < 2 ^ 62 := ⟨by omega, by omega⟩
theorem smallS {n : Nat} (h : n ≤ 1000) : n < sizeLine := small1000 h
theorem map_at {α β : Type} {l : List α} {f : α → β} {k : Nat} {y : β} (h : (l.map f)[k]? = some y) : ∃ x, l[k]? = some x ∧ y = f x := by
  rw [List.getElem?_map] at h
  cases e : l[k]? with
  | none => rw [e] at h; cases h
  | some x =>
    rw [e] at h
    exact ⟨x, rfl, (Option.some.inj h).symm⟩
theorem get_at {α : Type} {l : List α} {k : Nat} (d : α) (h : k < l.length) : l[k]? = some (l.getD k d) := by
  rw [getD_of h, List.getElem?_eq_getElem h]
theorem at_getD {α : Type} {l : List α} {k : Nat} {x : α} (d : α) (h : l[k]? = some x) : l.getD k d = x := by
  rw [List.getD_eq_getElem?_getD, h]
  rfl
/-- an item of a row, of rows -/
theorem row_at_is {H : Hp} {v : V} {r : Row} {c : Nat} (h : Dp K H v (eRow r)) (hc : c < r.length) : ∃ p xs y, v = .ref p ∧ SqL K H p xs ∧ atI xs (c : Int) = some y ∧ Dp K H y (eF (r.getD c (0, 1))) := by
  obtain ⟨p, xs, rfl, hS, hA⟩ := Dp_list h
  obtain ⟨y, hy, hd⟩ := DpAll_get (i := c) (d := eF (r.getD c (0, 1))) hA (by rw [List.getElem?_map, get_at (0, 1) hc]; rfl)
  exact ⟨p, xs, y, rfl, hS, atI_of hy, hd⟩
theorem rows_at_is {H : Hp} {v : V} {rows : List Row} {k : Nat} (h : Dp K H v (.list (rows.map eRow))) (hk : k < rows.length) : ∃ p xs y, v = .ref p ∧ SqL K H p xs ∧ atI xs (k : Int) = some y ∧ Dp K H y (eRow (rows.getD k [])) := by
  obtain ⟨p, xs, rfl, hS, hA⟩ := Dp_list h
  obtain ⟨y, hy, hd⟩ := DpAll_get (i := k) (d := eRow (rows.getD k [])) hA (by rw [List.getElem?_map, get_at [] hk]; rfl)
  exact ⟨p, xs, y, rfl, hS, atI_of hy, hd⟩
theorem rows_at_all {H : Hp} {v : V} {rows : List Row} {k : Nat} (h : Dp K H v (.list (rows.map eRow))) (hk : k < rows.length) : ∃ p xs y, v = .ref p ∧ SqL K H p xs ∧ atI xs (k : Int) = some y ∧ Dp K H y (eRow (rows.getD k [])) ∧ DpAll K H xs (rows.map eRow) := by
  obtain ⟨p, xs, rfl, hS, hA⟩ := Dp_list h
  obtain ⟨y, hy, hd⟩ := DpAll_get (i := k) (d := eRow (rows.getD k [])) hA (by rw [List.getElem?_map, get_at [] hk]; rfl)
  exact ⟨p, xs, y, rfl, hS, atI_of hy, hd, hA⟩
/-! ### first_with -/
def oI : Option Nat → V
  | none => .non
  | some k => .int (k : Int)
def spFirst (K : PySem.W.Frag) : Sp := fun vs H Q _ => ∃ (x : V) (rows : List Row) (w c : Nat), vs = [x, .int (c : Int)] ∧ Dp K H x (.list (rows.map eRow)) ∧ (∀ r ∈ rows, r.length = w) ∧ c < w ∧ rows.length ≤ 1000 ∧ Q (oI (firstWith rows c)) H
theorem first_some {rows : List Row} {c i : Nat} (hi : i < rows.length) (h : (rows.getD i []).getD c (0, 1) ≠ (0, 1)) (hn : ∀ j, j < i → (rows.getD j []).getD c (0, 1) = (0, 1)) : firstWith rows c = some i := by
  unfold firstWith
  refine List.findIdx?_eq_some_iff_getElem.mpr ⟨hi, ?_, fun j hj => ?_⟩
  · rw [← getD_of (d := []) hi, decide_eq_false h]
    rfl
  · rw [← getD_of (d := []) (show j < rows.length by omega), decide_eq_true (hn j hj)]
    decide
theorem first_none {rows : List Row} {c : Nat} (hn : ∀ j, j < rows.length → (rows.getD j []).getD c (0, 1) = (0, 1)) : firstWith rows c = none := by
  unfold firstWith
  refine List.findIdx?_eq_none_iff.mpr fun r hr => ?_
  obtain ⟨j, hj, rfl⟩ := List.mem_iff_getElem.mp hr
  rw [← getD_of (d := []) hj, decide_eq_true (hn j hj)]
  rfl
theorem ok_first_with (T : Tx K mg) : FnOk P w K mg base CX0 1 T.fFirstWith T.dFirstWith ["rows", "column"] (spFirst K) := by
  refine T.oFirstWith.F.ok scFirstWith (fun vs H Q E h => ?_) (fun cdv A outer s H vs Q E hr h => ?_)
  · obtain ⟨x, rows, w, c, rfl, _⟩ := h
    rfl
  · obtain ⟨x, rows, w, c, rfl, hx, hl, hc, hs, q⟩ := h
    obtain ⟨a, xs, rfl, hS, hA⟩ := Dp_list hx
    have len : xs.length = rows.length := by rw [DpAll_len hA, List.length_map]
    refine ⟨_, (pss_cons 
        (ps_for PassesOwn.never rfl (pi_range1 (by rfl) T.range (pa_cons (pe_callB (clen K) (by rfl) T.len PySem.boot_len (pa_cons (pv 0) pa_nil)) pa_nil)) (pg_name (i := 2) scFirstWith.nd rfl (.inl rfl))
          (pss_one 
            (ps_if (pt_cmpR (ned K (hu64 hr)) (pe_ix (ixl K) (pe_ix (ixl K) (pv 0) (pv 2) (fun _ _ => rfl)) (pv 1) (fun _ _ => rfl)) (pe_gr T.gZERO) (nomark _))
              (pss_one 
                (ps_ret (pv 2))) pss_nil)))
      (pss_one 
        (ps_ret pe_non))), ?_⟩
    refine ⟨_, rfl, a, xs, rfl, .inl hS, _, rfl, (small62 (by omega)).1, (small62 (by omega)).2, for_range (fun i σ H' => ∃ y, σ = [some (.ref a), some (.int (c : Int)), y] ∧ H' = H ∧ ∀ j, j < i → (rows.getD j []).getD c (0, 1) = (0, 1)) ⟨none, rfl, rfl, fun j hj => absurd hj (Nat.not_lt_zero j)⟩ ?_ ?_⟩
    · rintro i σ H' hi ⟨y, rfl, rfl, hn⟩
      rw [Int.zero_add]
      have hi' : i < rows.length := by
        rw [← len]
        exact hi
      obtain ⟨p, ys, u, e1, hS1, hu, hd⟩ := rows_at_is hx hi'
      obtain ⟨p2, zs, t, rfl, hS2, ht, hd2⟩ := row_at_is hd (c := c) (by rw [hl _ (mem_getD hi')]; exact hc)
      refine ⟨_, rfl, _, rfl, p, ys, _, _, e1, rfl, hS1, hu, _, rfl, p2, zs, _, _, rfl, rfl, hS2, ht, eF _, eF (0, 1), hd2, zeroD T _, shaped_F _, shaped_F _, _, rfl, ite2 (fun hc => ?_) (fun hc => ?_)⟩
      · rw [eqv_F] at hc
        have hne : (rows.getD i []).getD c (0, 1) ≠ (0, 1) := by simpa using hc
        refine ⟨_, rfl, ?_⟩
        rw [first_some hi' hne hn] at q
        exact q
      · rw [eqv_F] at hc
        have he : (rows.getD i []).getD c (0, 1) = (0, 1) := by simpa using hc
        refine ⟨_, rfl, rfl, fun j hj => ?_⟩
        by_cases z : j = i
        · subst z; exact he
        · exact hn j (by omega)
    · rintro σ H' ⟨y, rfl, rfl, hn⟩
      rw [first_none fun j hj => hn j (by
        show j < xs.length
        rw [len]
        exact hj)] at q
      exact q
/-! ### led -/
def SmallR (n : Nat) (r : Row) : Prop := ∀ x ∈ r, Ok x ∧ Small n x
theorem SmallR.at {n : Nat} {r : Row} (h : SmallR n r) (h1 : 1 ≤ n) (k : Nat) : Ok (r.getD k (0, 1)) ∧ Small n (r.getD k (0, 1)) := by
  by_cases hk : k < r.length
  · exact h _ (mem_getD hk)
  · rw [getD_out (by omega)]
    exact ⟨ok01, small01.mono h1⟩
def spLed (K : PySem.W.Frag) : Sp := fun vs H Q _ => ∃ (x : V) (r : Row) (c : Nat), vs = [x, .int (c : Int)] ∧ Dp K H x (eRow r) ∧ SmallR 4000 r ∧ c < r.length ∧ r.length ≤ 1000 ∧ (r.getD c (0, 1)).1 ≠ 0 ∧ GivesL K H ((led r c).map eF) Q
theorem ok_led (T : Tx K mg) : FnOk P w K mg base CX0 4 T.fLed T.dLed ["row", "column"] (spLed K) := by
  refine T.oLed.F.ok scLed (fun vs H Q E h => ?_) (fun cdv A outer s H vs Q E hr h => ?_)
  · obtain ⟨x, r, c, rfl, _⟩ := h
    rfl
  · obtain ⟨x, r, c, rfl, hx, sm, hc, hs, h0, q⟩ := h
    obtain ⟨a, xs, rfl, hS, hA⟩ := Dp_list hx
    have len : xs.length = r.length := by rw [DpAll_len hA, List.length_map]
    refine ⟨_, (pss_one 
        (ps_ret (pe_lc (own := [("part", 2)]) (g := gName 2) (tt := tYes) rfl scLed.nd (pi_list (pv 0)) (blkOk_by (N := NLed) (sc := defScope sLed) (by decide +kernel)) (fun _ _ _ _ _ => pg_name (i := 2) scLed.nd rfl (Or.inl rfl)) (fun _ _ _ _ _ => pts_nil) (fun _ _ _ _ _ => (pe_call (ok_over T) (hr.mono (by decide)) (by rfl) T.oOver.g T.oOver.F.kp T.oOver.b .nil pass0 (pa_cons (pv 2) (pa_cons (pe_ix (ixl K) (pv 0) (pv 1) (fun _ _ => rfl)) pa_nil))))))), ?_⟩
    refine ⟨_, rfl, a, rfl, ⟨_, hS⟩, fun D hD => lc_map hS (by rw [len, List.length_map]; unfold led; rw [List.length_map]) (by unfold led; rw [List.length_map, List.length_map]; exact smallS hs) hD (fun k x d H3 acc hk hd s3 hA3 Q' kk => ?_) (q.at hD)⟩
    have hx3 := Dp_mono s3 _ _ hx
    obtain ⟨e, he, hde⟩ := DpAll_at (DpAll_mono s3 _ _ hA) hk
    obtain ⟨z, hz, rfl⟩ := map_at he
    obtain ⟨p2, zs, t, e2, hS2, ht, hd2⟩ := row_at_is hx3 (c := c) hc
    cases e2
    have hdd : d = eF (overP z (r.getD c (0, 1))) := by
      unfold led at hd
      rw [List.map_map] at hd
      obtain ⟨z', hz', rfl⟩ := map_at hd
      rw [hz] at hz'
      cases hz'
      rfl
    subst hdd
    have oz := sm z (List.mem_of_getElem? hz)
    have oc := sm.at (by decide) c
    exact ⟨_, rfl, _, rfl, _, rfl, a, zs, _, _, rfl, rfl, hS2, ht, x, t, z, r.getD c (0, 1), rfl, hde, hd2, oz.1, oc.1, oz.2, oc.2, h0, gF hA3 kk⟩
/-! ### cleared -/
def spCleared (K : PySem.W.Frag) : Sp := fun vs H Q _ => ∃ (x y : V) (r l : Row) (c : Nat), vs = [x, y, .int (c : Int)] ∧ Dp K H x (eRow r) ∧ Dp K H y (eRow l) ∧ SmallR 2000 r ∧ SmallR 2000 l ∧ r.length = l.length ∧ c < r.length ∧ r.length ≤ 1000 ∧ GivesL K H ((cleared r l c).map eF) Q
theorem ok_cleared (T : Tx K mg) : FnOk P w K mg base CX0 4 T.fCleared T.dCleared ["row", "lead", "column"] (spCleared K) := by
  refine T.oCleared.F.ok scCleared (fun vs H Q E h => ?_) (fun cdv A outer s H vs Q E hr h => ?_)
  · obtain ⟨x, y, r, l, c, rfl, _⟩ := h
    rfl
  · obtain ⟨x, y, r, l, c, rfl, hx, hy, sr, sl, hrl, hc, hs, q⟩ := h
    obtain ⟨a, xs, rfl, hS, hA⟩ := Dp_list hx
    have len : xs.length = r.length := by rw [DpAll_len hA, List.length_map]
    refine ⟨_, (pss_cons 
        (ps_set (i := 3) scCleared.nd rfl (.inr rfl) (pe_ix (ixl K) (pv 0) (pv 2) (fun _ _ => rfl)))
      (pss_one 
        (ps_ret (pe_lc (own := [("k", 4)]) (g := gName 4) (tt := tYes) rfl scCleared.nd (pi_range1 (by rfl) T.range (pa_cons (pe_callB (clen K) (by rfl) T.len PySem.boot_len (pa_cons (pv 0) pa_nil)) pa_nil)) (blkOk_by (N := NCleared) (sc := defScope sCleared) (by decide +kernel)) (fun _ _ _ _ _ => pg_name (i := 4) scCleared.nd rfl (Or.inl rfl)) (fun _ _ _ _ _ => pts_nil) (fun _ _ _ _ _ => (pe_call (ok_minus T) (hr.mono (by decide)) (by rfl) T.oMinus.g T.oMinus.F.kp T.oMinus.b .nil pass0 (pa_cons (pe_ix (ixl K) (pv 0) (pv 4) (fun _ _ => rfl)) (pa_cons (pe_call (ok_times T) (hr.mono (by decide)) (by rfl) T.oTimes.g T.oTimes.F.kp T.oTimes.b .nil pass0 (pa_cons (pv 3) (pa_cons (pe_ix (ixl K) (pv 1) (pv 4) (fun _ _ => rfl)) pa_nil))) pa_nil)))))))), ?_⟩
    obtain ⟨p0, ys0, t0, e0, hS0, ht0, hd0⟩ := row_at_is hx (c := c) hc
    cases e0
    refine ⟨_, rfl, _, rfl, a, ys0, _, _, rfl, rfl, hS0, ht0, ?_⟩
    refine ⟨_, rfl, a, xs, rfl, .inl hS, _, rfl, (small62 (by omega)).1, (small62 (by omega)).2, fun D hD => lc_mapR (n := xs.length) (by unfold cleared; rw [len, List.length_map, List.length_map, List.length_range]) (by unfold cleared; rw [List.length_map, List.length_map, List.length_range]; exact smallS hs) hD (fun k d H3 acc hk hd s3 hA3 Q' kk => ?_) (q.at hD)⟩
    have hkr : k < r.length := by omega
    have hdd : d = eF (minusP (r.getD k (0, 1)) (timesP (r.getD c (0, 1)) (l.getD k (0, 1)))) := by
      unfold cleared at hd
      rw [List.map_map, List.getElem?_map, List.getElem?_range hkr] at hd
      exact (Option.some.inj hd).symm
    subst hdd
    have or := sr.at (by decide) k
    have oc := sr.at (by decide) c
    have ol := sl.at (by decide) k
    obtain ⟨p1, ys1, t1, e1, hS1, ht1, hd1⟩ := row_at_is (Dp_mono s3 _ _ hx) (c := k) hkr
    cases e1
    obtain ⟨p2, ys2, t2, rfl, hS2, ht2, hd2⟩ := row_at_is (Dp_mono s3 _ _ hy) (c := k) (by omega)
    refine ⟨_, rfl, _, rfl, a, ys1, _, _, rfl, rfl, hS1, ht1, _, rfl, _, rfl, _, rfl, p2, ys2, _, _, rfl, rfl, hS2, ht2, t0, t2, _, _, rfl, Dp_mono s3 _ _ hd0, hd2, oc.1, ol.1, oc.2.mono (by decide), ol.2.mono (by decide), trivial, fun H4 p s4 np hp => ?_⟩
    have om := mul_ok oc.1 ol.1
    have sm := mul_small oc.1 ol.1 oc.2 ol.2
    refine ⟨t1, .ref p, _, _, rfl, Dp_mono s4 _ _ hd1, F_of hp, or.1, om, or.2.mono (by decide), sm, trivial, gF (s4 _ _ hA3) fun H5 y s5 hy => kk H5 y (s4.trans s5) hy⟩
end
end Sl

/-! relations_among. -/
namespace Sl
open PySem PySem.Spec PyProof.Rows L2
open Kp340 (Fr Mix Net)
def relAt (rows : List Row) (c : Nat) : List Row × List Row := (List.range c).foldl relStep ([], rows)
theorem relAt_succ (rows : List Row) (c : Nat) : relAt rows (c + 1) = relStep (relAt rows c) c := by
  unfold relAt
  rw [List.range_succ, List.foldl_append]
  rfl
/-- all rows on the way are good, and not too great -/
def Fine (w : Nat) (rows : List Row) : Prop := ∀ c, c ≤ w → (∀ r ∈ (relAt rows c).1, RowB 2000 r) ∧ (∀ r ∈ (relAt rows c).2, RowB 2000 r)
theorem relAt_good {w : Nat} {rows : List Row} (hg : ∀ r ∈ rows, Good w r) (hf : Fine w rows) (c : Nat) (hc : c ≤ w) :
    (∀ r ∈ (relAt rows c).1, Good w r ∧ RowB 2000 r) ∧ (∀ r ∈ (relAt rows c).2, Good w r ∧ RowB 2000 r) ∧ (relAt rows c).1.length + (relAt rows c).2.length = rows.length := by
  have hb : ∀ r ∈ rows, RowB 2000 r := (hf 0 (Nat.zero_le _)).2
  have I := fold_inv hg c hc
  have B := fold_B hg hb c hc
  have e := fold_is hg c hc
  have ha := B.all
  obtain ⟨f1, f2⟩ := hf c hc
  unfold relAt at f1 f2 ⊢
  rw [e] at f1 f2 ⊢
  refine ⟨fun r hr => ⟨?_, f1 r hr⟩, fun r hr => ⟨(I.rest r hr).1, f2 r hr⟩, by rw [List.length_map]; exact ha⟩
  obtain ⟨x, hx, rfl⟩ := List.mem_map.mp hr
  exact (I.done x hx).2.1
theorem fine_of {w n : Nat} {rows : List Row} (hg : ∀ r ∈ rows, Good w r) (hb : ∀ r ∈ rows, RowB n r) (hbit : bits n rows.length ≤ 2000) : Fine w rows := fun c hc => by
  have I := fold_inv hg c hc
  have B := fold_B hg hb c hc
  have e := fold_is hg c hc
  have ha := B.all
  unfold relAt
  rw [e]
  refine ⟨fun r hr => ?_, fun r hr => (B.rest r hr).mono (Nat.le_trans (bits_mono n (by omega)) hbit)⟩
  obtain ⟨x, hx, rfl⟩ := List.mem_map.mp hr
  exact (B.done x hx).mono (Nat.le_trans (bits_mono n (by omega)) hbit)
theorem rowB_small {n : Nat} {w : Nat} {r : Row} (g : Good w r) (h : RowB n r) (m : Nat) (l : n ≤ m) : SmallR m r := fun x hx => ⟨g.2 x hx, (h.small x hx).mono l⟩
section
variable {P : Program} {w : World} {K : PySem.W.Frag} {mg : Str → Option Value} {base : Heap}
theorem cut_take (xs : List V) (k : Nat) : cutV xs none (some (k : Int)) = xs.take k := by
  unfold cutV
  rw [HT.sIx_none, show HT.sIx xs.length xs.length (some (k : Int)) = min k xs.length from HT.sIx_nat xs.length xs.length k, Nat.sub_zero, List.drop_zero]
  exact (List.take_eq_take_min ..).symm
theorem cut_drop (xs : List V) (k : Nat) : cutV xs (some (k : Int)) none = xs.drop k := by
  unfold cutV
  rw [HT.sIx_none, show HT.sIx xs.length 0 (some (k : Int)) = min k xs.length from HT.sIx_nat xs.length 0 k]
  by_cases h : k ≤ xs.length
  · rw [Nat.min_eq_left h]
    exact List.take_of_length_le (by rw [List.length_drop]; exact Nat.le_refl _)
  · rw [Nat.min_eq_right (by omega), Nat.sub_self, List.take_zero, List.drop_eq_nil_of_le (by omega)]
/-- a list of what each row is cleared to -/
theorem clear_items (T : Tx K mg) {x : Cx} : True := trivial
def spAmong (K : PySem.W.Frag) : Sp := fun vs H Q _ => ∃ (x : V) (rows : List Row) (w : Nat), vs = [x, .int (w : Int)] ∧ Dp K H x (.list (rows.map eRow)) ∧ (∀ r ∈ rows, Good w r) ∧ Fine w rows ∧ w ≤ 1000 ∧ rows.length ≤ 900 ∧ GivesL K H ((relationsAmong rows w).map eRow) Q
theorem ok_relations_among (T : Tx K mg) : FnOk P w K mg base CX0 5 T.fRelationsAmong T.dRelationsAmong ["rows", "width"] (spAmong K) := by
  refine T.oRelationsAmong.F.ok scRelationsAmong (fun vs H Q E h => ?_) (fun cdv A outer s H vs Q E hr h => ?_)
  · obtain ⟨x, rows, w, rfl, _⟩ := h
    rfl
  · obtain ⟨x, rows, w, rfl, hx, hg, hf, hw, hlen, q⟩ := h
    obtain ⟨a, xs, rfl, hS, hA⟩ := Dp_list hx
    have len : xs.length = rows.length := by rw [DpAll_len hA, List.length_map]
    refine ⟨_, (pss_cons 
        (ps_set (i := 2) scRelationsAmong.nd rfl (.inl rfl) (pe_lst pa_nil))
      (pss_cons 
        (ps_set (i := 3) scRelationsAmong.nd rfl (.inl rfl) (pe_callTy (clist K) (by rfl) T.list PyProof.Rows.boot_list (pa_cons (pv 0) pa_nil)))
      (pss_cons 
        (ps_for PassesOwn.never rfl (pi_range1 (by rfl) T.range (pa_cons (pv 1) pa_nil)) (pg_name (i := 4) scRelationsAmong.nd rfl (.inr rfl))
          (pss_cons 
            (ps_set (i := 5) scRelationsAmong.nd rfl (.inl rfl) (pe_call (ok_first_with T) (hr.mono (by decide)) (by rfl) T.oFirstWith.g T.oFirstWith.F.kp T.oFirstWith.b .nil pass0 (pa_cons (pv 3) (pa_cons (pv 4) pa_nil))))
          (pss_one 
            (ps_if (pt_cmpR op_notN (pv 5) pe_non (nomark _))
              (pss_cons 
                (ps_set (i := 6) scRelationsAmong.nd rfl (.inr rfl) (pe_call (ok_led T) (hr.mono (by decide)) (by rfl) T.oLed.g T.oLed.F.kp T.oLed.b .nil pass0 (pa_cons (pe_ix (ixl K) (pv 3) (pv 5) (fun _ _ => rfl)) (pa_cons (pv 4) pa_nil))))
              (pss_cons 
                (ps_set (i := 7) scRelationsAmong.nd rfl (.inl rfl) (pe_op op_cat (pe_slice (sll K) (pv 3) po_none (po_some (pv 5))) (pe_slice (sll K) (pv 3) (po_some (pe_op op_add (pv 5) pe_int)) po_none)))
              (pss_cons 
                (ps_setLc (i := 3) (own := [("row", 8)]) (g := gName 8) (tt := tYes) rfl scRelationsAmong.nd rfl rfl (sw_true rfl rfl rfl (by decide +kernel)) (pi_list (pv 7)) (blkOk_by (N := NRelationsAmong) (sc := defScope sRelationsAmong) (by decide +kernel)) (fun _ _ _ _ _ => pg_name (i := 8) scRelationsAmong.nd rfl (Or.inl rfl)) (fun _ _ _ _ _ => pts_nil) (fun _ _ _ _ _ => (pe_call (ok_cleared T) (hr.mono (by decide)) (by rfl) T.oCleared.g T.oCleared.F.kp T.oCleared.b .nil pass0 (pa_cons (pv 8) (pa_cons (pv 6) (pa_cons (pv 4) pa_nil))))))
              (pss_one 
                (ps_set (i := 2) scRelationsAmong.nd rfl (.inl rfl) (pe_op op_cat (pe_lc (own := [("row", 8)]) (g := gName 8) (tt := tYes) rfl scRelationsAmong.nd (pi_list (pv 2)) (blkOk_by (N := NRelationsAmong) (sc := defScope sRelationsAmong) (by decide +kernel)) (fun _ _ _ _ _ => pg_name (i := 8) scRelationsAmong.nd rfl (Or.inl rfl)) (fun _ _ _ _ _ => pts_nil) (fun _ _ _ _ _ => (pe_call (ok_cleared T) (hr.mono (by decide)) (by rfl) T.oCleared.g T.oCleared.F.kp T.oCleared.b .nil pass0 (pa_cons (pv 8) (pa_cons (pv 6) (pa_cons (pv 4) pa_nil)))))) (pe_lst (pa_cons (pv 6) pa_nil)))))))) pss_nil))))
      (pss_one 
        (ps_ret (pv 2)))))), ?_⟩
    -- done = []; rest = list(rows)
    refine ⟨Nat.zero_le _, fun pd npd => ?_⟩
    have s1 : Same H (upd H pd (.lst [])) := same_upd npd
    refine ⟨_, rfl, a, xs, rfl, .inl (Same.seq s1 hS), fun pr npr => ?_⟩
    have s2 : Same (upd H pd (.lst [])) (upd (upd H pd (.lst [])) pr (.lst xs)) := same_upd npr
    have npr0 : H pr = none := s1.free npr
    -- the loop
    refine ⟨_, rfl, _, rfl, (small62 hw).1, (small62 hw).2, for_range (n := w) (fun c σ H' => ∃ pd ds v3 y4 y5 y6 y7, σ = [some (.ref a), some (.int (w : Int)), some (.ref pd), some v3, y4, y5, y6, y7, none] ∧ Same H H' ∧ H pd = none ∧ H' pd = some (.lst ds) ∧ DpAll K H' ds ((relAt rows c).1.map eRow) ∧ Dp K H' v3 (.list ((relAt rows c).2.map eRow)))
      ⟨pd, [], .ref pr, none, none, none, none, rfl, s1.trans s2, npd, s2 _ _ upd_same, .nil, .lst (SqL.of upd_same) (DpAll_mono (s1.trans s2) _ _ hA)⟩ ?_ ?_⟩
    · rintro c σ H' hc ⟨pd, ds, v3, y4, y5, y6, y7, rfl, sH, npd, hpd, hds, h3⟩
      rw [Int.zero_add]
      obtain ⟨g1, g2, gl⟩ := relAt_good hg hf c (by omega)
      have es := relAt_succ rows c
      unfold relStep at es
      -- k = first_with(rest, column)
      refine ⟨_, rfl, _, rfl, v3, (relAt rows c).2, w, c, rfl, h3, fun r hr => (g2 r hr).1.1, hc, by omega, ?_⟩
      cases hf : firstWith (relAt rows c).2 c with
      | none =>
        rw [hf] at es
        refine ⟨_, rfl, rfl, _, rfl, ite2 (fun z => absurd z (by decide)) (fun _ => ?_)⟩
        refine ⟨pd, ds, v3, _, _, _, _, rfl, sH, npd, hpd, ?_, ?_⟩
        · rw [es]; exact hds
        · rw [es]; exact h3
      | some k =>
        rw [hf] at es
        dsimp only at es
        obtain ⟨hk, hne, _⟩ := findIdx_some (d := []) hf
        have hne : ((relAt rows c).2.getD k []).getD c (0, 1) ≠ (0, 1) := by simpa using hne
        have gk := g2 _ (mem_getD (d := []) hk)
        have h0 := ne_zero (gk.1.at c) hne
        refine ⟨_, rfl, rfl, _, rfl, ite2 (fun _ => ?_) (fun z => absurd (by rfl) z)⟩
        -- lead = led(rest[k], column)
        obtain ⟨p3, xs3, u3, rfl, hS3, hu3, hd3, hA31⟩ := rows_at_all h3 hk
        refine ⟨_, rfl, _, rfl, p3, xs3, _, _, rfl, rfl, hS3, hu3, _, rfl, u3, _, c, rfl, hd3, rowB_small gk.1 gk.2 4000 (by omega), by rw [gk.1.1]; exact hc, by rw [gk.1.1]; omega, h0, fun H1 pl ls sl npl hpl hls => ?_⟩
        have ePl : led ((relAt rows c).2.getD k []) c = Kp341.timesRow (Kp341.inv (((relAt rows c).2.getD k []).getD c (0, 1))) ((relAt rows c).2.getD k []) := led_is gk.1 h0
        have gL1 : Good w (led ((relAt rows c).2.getD k []) c) := by rw [ePl]; exact led_good gk.1 h0
        have gL2 : SmallR 2000 (led ((relAt rows c).2.getD k []) c) := by
          rw [ePl]
          exact rowB_small (led_good gk.1 h0) (led_B gk.2 h0) 2000 (Nat.le_refl _)
        generalize led ((relAt rows c).2.getD k []) c = lead at *
        have hlead : Dp K H1 (.ref pl) (eRow lead) := .lst (SqL.of hpl) hls
        -- others = rest[:k] + rest[k + 1:]
        have hS31 := Same.seq sl hS3
        refine ⟨_, rfl, _, rfl, _, rfl, p3, xs3, rfl, hS31, fun q1 nq1 => ?_⟩
        rw [show oI (some k) = V.int (k : Int) from rfl] at *
        have t1 : Same H1 (upd H1 q1 (.lst (cutV xs3 none (some (k : Int))))) := same_upd nq1
        refine ⟨_, rfl, _, rfl, _, _, rfl, rfl, _, rfl, p3, xs3, rfl, Same.seq t1 hS31, fun q2 nq2 => ?_⟩
        rw [cut_take] at *
        rw [show (k : Int) + 1 = ((k + 1 : Nat) : Int) from rfl, cut_drop] at *
        have t2 : Same (upd H1 q1 (.lst (xs3.take k))) (upd (upd H1 q1 (.lst (xs3.take k))) q2 (.lst (xs3.drop (k + 1)))) := same_upd nq2
        have lx3 : xs3.length = (relAt rows c).2.length := by rw [DpAll_len hA31, List.length_map]
        refine ⟨q1, q2, _, _, rfl, rfl, t2 _ _ upd_same, upd_same, ?_, fun q3 nq3 => ?_⟩
        · rw [List.length_take, List.length_drop]
          exact Nat.le_of_lt (smallS (by omega))
        have t3 : Same (upd (upd H1 q1 (.lst (xs3.take k))) q2 (.lst (xs3.drop (k + 1)))) (upd (upd (upd H1 q1 (.lst (xs3.take k))) q2 (.lst (xs3.drop (k + 1)))) q3 (.lst (xs3.take k ++ xs3.drop (k + 1)))) := same_upd nq3
        have hq3 : (upd (upd (upd H1 q1 (.lst (xs3.take k))) q2 (.lst (xs3.drop (k + 1)))) q3 (.lst (xs3.take k ++ xs3.drop (k + 1)))) q3 = some (.lst (xs3.take k ++ xs3.drop (k + 1))) := upd_same
        have t123 := t1.trans (t2.trans t3)
        generalize upd (upd (upd H1 q1 (.lst (xs3.take k))) q2 (.lst (xs3.drop (k + 1)))) q3 (.lst (xs3.take k ++ xs3.drop (k + 1))) = H2 at *
        clear t1 t2 t3 nq1 nq2 nq3
        have hO : DpAll K H2 (xs3.take k ++ xs3.drop (k + 1)) (((relAt rows c).2.take k ++ (relAt rows c).2.drop (k + 1)).map eRow) := by
          rw [List.map_append, List.map_take, List.map_drop]
          exact DpAll_mono (sl.trans t123) _ _ (DpAll_app (DpAll_take k hA31) (DpAll_drop (k + 1) hA31))
        have gO : ∀ r ∈ (relAt rows c).2.take k ++ (relAt rows c).2.drop (k + 1), Good w r ∧ RowB 2000 r := fun r hr => g2 r (by
          rcases List.mem_append.mp hr with h | h
          · exact List.mem_of_mem_take h
          · exact List.mem_of_mem_drop h)
        have lO : ((relAt rows c).2.take k ++ (relAt rows c).2.drop (k + 1)).length ≤ 900 := by
          rw [List.length_append, List.length_take, List.length_drop]
          omega
        generalize (relAt rows c).2.take k ++ (relAt rows c).2.drop (k + 1) = oth at *
        generalize xs3.take k ++ xs3.drop (k + 1) = oxs at *
        have lox : oxs.length = oth.length := by rw [DpAll_len hO, List.length_map]
        -- rest = [cleared(row, lead, column) for row in others]
        have item : ∀ (l : List Row) (H0 H3 : Hp) (j : Nat) (x : V) (d : PyData) (D : Addr) (acc : List V) (Q' : VK), (∀ r ∈ l, Good w r ∧ RowB 2000 r) → Same H1 H3 → (∀ vs, DpAll K H3 vs (l.map eRow) → vs[j]? = some x → ((l.map fun r => eRow (cleared r lead c))[j]? = some d) → H3 D = some (.lst acc) → (∀ H4 y, Same H3 H4 → Dp K (hide H4 D) y d → Q' y H4) → spCleared K [x, .ref pl, .int (c : Int)] H3 Q' E0) := by
          intro l H0 H3 j x d D acc Q' gl s3 vs hvs hx hd hD kk
          obtain ⟨e, he, hde⟩ := DpAll_at hvs hx
          obtain ⟨r, hr, rfl⟩ := map_at he
          obtain ⟨r', hr', rfl⟩ := map_at hd
          rw [hr] at hr'
          cases hr'
          have gr := gl r (List.mem_of_getElem? hr)
          exact ⟨x, .ref pl, r, lead, c, rfl, hde, Dp_mono s3 _ _ hlead, rowB_small gr.1 gr.2 2000 (Nat.le_refl _), gL2, by rw [gr.1.1, gL1.1], by rw [gr.1.1]; exact hc, by rw [gr.1.1]; omega, gL (tup_Fs _) hD kk⟩
        refine ⟨_, rfl, q3, rfl, ⟨_, SqL.of hq3⟩, fun D hD => lc_map (ds := oth.map fun r => eRow (cleared r lead c)) (SqL.of hq3) (by rw [lox, List.length_map]) (by rw [List.length_map]; exact smallS (by omega)) hD (fun j x d H3 acc hx hd s3 hA3 Q' kk => ?_) (fun H3 rs s3 hpr hrs => ?_)⟩
        · exact ⟨_, rfl, _, rfl, _, rfl, item oth H2 H3 j x d D acc Q' gO (t123.trans s3) oxs (DpAll_mono s3 _ _ hO) hx hd hA3 kk⟩
        -- done = [cleared(row, lead, column) for row in done] + [lead]
        have u1 : Same H' H3 := sl.trans (t123.trans s3)
        have hpd3 := u1 _ _ hpd
        have hds3 := DpAll_mono u1 _ _ hds
        have ldd : ds.length = (relAt rows c).1.length := by rw [DpAll_len hds, List.length_map]
        refine ⟨_, rfl, pd, rfl, ⟨_, SqL.of hpd3⟩, fun D2 hD2 => lc_map (ds := (relAt rows c).1.map fun r => eRow (cleared r lead c)) (SqL.of hpd3) (by rw [ldd, List.length_map]) (by rw [List.length_map]; exact smallS (by omega)) hD2 (fun j x d H4 acc hx hd s4 hA4 Q' kk => ?_) (fun H4 rs2 s4 h4 hrs2 => ?_)⟩
        · exact ⟨_, rfl, _, rfl, _, rfl, item (relAt rows c).1 H2 H4 j x d D2 acc Q' g1 ((t123.trans s3).trans s4) ds (DpAll_mono s4 _ _ hds3) hx hd hA4 kk⟩
        refine ⟨_, rfl, by show 1 ≤ sizeLine; decide, fun q4 nq4 => ?_⟩
        have s5 : Same H4 (upd H4 q4 (.lst [.ref pl])) := same_upd nq4
        have lr2 : rs2.length = (relAt rows c).1.length := by rw [DpAll_len hrs2, List.length_map]
        refine ⟨D2, q4, rs2, [.ref pl], rfl, rfl, s5 _ _ h4, upd_same, ?_, fun q5 nq5 => ?_⟩
        · show rs2.length + 1 ≤ sizeLine
          exact Nat.le_of_lt (smallS (by omega))
        have s6 : Same (upd H4 q4 (.lst [.ref pl])) (upd (upd H4 q4 (.lst [.ref pl])) q5 (.lst (rs2 ++ [.ref pl]))) := same_upd nq5
        have sAll : Same H' (upd (upd H4 q4 (.lst [.ref pl])) q5 (.lst (rs2 ++ [.ref pl]))) := u1.trans (s4.trans (s5.trans s6))
        refine ⟨q5, rs2 ++ [.ref pl], .ref D, _, _, _, _, rfl, sH.trans sAll, (sH.trans (u1.trans (s4.trans s5))).free nq5, upd_same, ?_, ?_⟩
        · rw [es, List.map_append, List.map_map]
          exact DpAll_app (DpAll_mono (s5.trans s6) _ _ hrs2) (DpAll_one (Dp_mono (t123.trans (s3.trans (s4.trans (s5.trans s6)))) _ _ hlead))
        · rw [es, List.map_map]
          exact .lst (SqL.of ((s4.trans (s5.trans s6)) _ _ hpr)) (DpAll_mono (s4.trans (s5.trans s6)) _ _ hrs)
    · rintro σ H' ⟨pd, ds, v3, y4, y5, y6, y7, rfl, sH, npd, hpd, hds, h3⟩
      exact ⟨_, rfl, q H' pd ds sH npd hpd hds⟩
end
end Sl

/-! lead_column, weights_with, weights_that_could_be, ratio_among. -/
namespace Sl
open PySem PySem.Spec PyProof.Rows L2
open Kp340 (Fr Mix Net)
section
variable {P : Program} {w : World} {K : PySem.W.Frag} {mg : Str → Option Value} {base : Heap}
theorem ixN_nat {n j : Nat} (hj : j < n) : ixN n (j : Int) = some j := by
  unfold ixN
  rw [if_pos (by omega), if_pos (by omega)]
  rfl
/-! ### lead_column -/
def spLead (K : PySem.W.Frag) : Sp := fun vs H Q _ => ∃ (x : V) (r : Row), vs = [x] ∧ Dp K H x (eRow r) ∧ (∃ y ∈ r, y ≠ (0, 1)) ∧ Q (.int ((leadColumn r : Nat) : Int)) H
theorem lead_props {r : Row} (h : ∃ y ∈ r, y ≠ (0, 1)) : leadColumn r < r.length ∧ r.getD (leadColumn r) (0, 1) ≠ (0, 1) ∧ ∀ j, j < leadColumn r → r.getD j (0, 1) = (0, 1) := by
  obtain ⟨y, hy, hn⟩ := h
  have h1 : leadColumn r < r.length := List.findIdx_lt_length_of_exists ⟨y, hy, by rw [decide_eq_false hn]; rfl⟩
  refine ⟨h1, ?_, fun j hj => ?_⟩
  · have := List.findIdx_getElem (p := fun x => !decide (x = ((0 : Int), (1 : Int)))) (w := h1)
    rw [getD_of h1]
    rw [Bool.not_eq_true', decide_eq_false_iff_not] at this
    exact this
  · have := List.not_of_lt_findIdx hj
    rw [getD_of (by omega)]
    simpa using this
theorem ok_lead_column (T : Tx K mg) : FnOk P w K mg base CX0 1 T.fLeadColumn T.dLeadColumn ["relation"] (spLead K) := by
  refine T.oLeadColumn.F.ok scLeadColumn (fun vs H Q E h => ?_) (fun cdv A outer s H vs Q E hr h => ?_)
  · obtain ⟨x, r, rfl, _⟩ := h
    rfl
  · obtain ⟨x, r, rfl, hx, he, q⟩ := h
    obtain ⟨l1, l2, l3⟩ := lead_props he
    refine ⟨_, (pss_cons 
        (ps_set (i := 1) scLeadColumn.nd rfl (.inl rfl) pe_int)
      (pss_cons 
        (ps_while PassesOwn.never (pt_cmpR (eqd K (hu64 hr)) (pe_ix (ixl K) (pv 0) (pv 1) (fun _ _ => rfl)) (pe_gr T.gZERO) (nomark _))
          (pss_one 
            (ps_set (i := 1) scLeadColumn.nd rfl (.inl rfl) (pe_op op_add (pv 1) pe_int))))
      (pss_one 
        (ps_ret (pv 1))))), ?_⟩
    refine ⟨fun m σ H' => ∃ c : Nat, σ = [some x, some (.int (c : Int))] ∧ H' = H ∧ c ≤ leadColumn r ∧ m = leadColumn r - c, ⟨leadColumn r, 0, rfl, rfl, Nat.zero_le _, rfl⟩, ?_⟩
    rintro m σ H' ⟨c, rfl, rfl, hc, rfl⟩
    obtain ⟨p, xs, y, rfl, hS, hy, hd⟩ := row_at_is hx (c := c) (by omega)
    refine ⟨_, rfl, _, rfl, p, xs, _, _, rfl, rfl, hS, hy, eF _, eF (0, 1), hd, zeroD T _, shaped_F _, shaped_F _, _, rfl, ite2 (fun hz => ?_) (fun hz => ?_)⟩
    · rw [eqv_F] at hz
      have hz := of_decide_eq_true hz
      have hlt : c < leadColumn r := by
        rcases Nat.lt_or_ge c (leadColumn r) with h | h
        · exact h
        · have : c = leadColumn r := by omega
          exact absurd (this ▸ hz) l2
      refine ⟨fun σ' H'' => σ' = [some (.ref p), some (.int ((c + 1 : Nat) : Int))] ∧ H'' = H', fun σ' H'' hN => ?_, ?_⟩
      · obtain ⟨rfl, rfl⟩ := hN
        exact ⟨leadColumn r - (c + 1), by omega, c + 1, rfl, rfl, by omega, rfl⟩
      · exact ⟨_, rfl, _, _, rfl, rfl, rfl, rfl⟩
    · rw [eqv_F] at hz
      have hz : r.getD c (0, 1) ≠ (0, 1) := fun z => hz (decide_eq_true z)
      have : c = leadColumn r := by
        rcases Nat.lt_or_ge c (leadColumn r) with h | h
        · exact absurd (l3 c h) hz
        · omega
      subst this
      exact ⟨_, rfl, q⟩
/-! ### weights_with -/
def eInts (l : List Nat) : List PyData := l.map fun (k : Nat) => PyData.int (k : Int)
theorem eInts_is {H : Hp} {vs : List V} {l : List Nat} (h : DpAll K H vs (eInts l)) : vs = l.map fun (k : Nat) => V.int (k : Int) := by
  have e : eInts l = (l.map fun (k : Nat) => (k : Int)).map PyData.int := by
    unfold eInts
    rw [List.map_map]
    rfl
  rw [e] at h
  rw [ints_of h, List.map_map]
  rfl
theorem DpNats (H : Hp) (l : List Nat) : DpAll K H (l.map fun (k : Nat) => V.int (k : Int)) (eInts l) := by
  have := DpInts (K := K) (H := H) (l.map fun (k : Nat) => (k : Int))
  rw [List.map_map, List.map_map] at this
  exact this
theorem nat_at_is {H : Hp} {v : V} {l : List Nat} {k : Nat} (h : Dp K H v (.list (eInts l))) (hk : k < l.length) : ∃ p xs, v = .ref p ∧ SqL K H p xs ∧ atI xs (k : Int) = some (.int ((l.getD k 0 : Nat) : Int)) := by
  obtain ⟨p, xs, rfl, hS, hA⟩ := Dp_list h
  have e := eInts_is hA
  subst e
  refine ⟨p, _, rfl, hS, atI_of ?_⟩
  rw [List.getElem?_map, get_at 0 hk]
  rfl
def spWith (K : PySem.W.Frag) : Sp := fun vs H Q _ => ∃ (x y : V) (rels : List Row) (leads : List Nat) (w g : Nat), vs = [x, y, .int (w : Int), .int (g : Int)] ∧ Dp K H x (.list (rels.map eRow)) ∧ Dp K H y (.list (eInts leads)) ∧ leads.length = rels.length ∧ (∀ c ∈ leads, c < w) ∧ (∀ r ∈ rels, r.length = w ∧ SmallR 4000 r) ∧ g < w ∧ w ≤ 1000 ∧ rels.length ≤ 1000 ∧ GivesL K H ((weightsWith rels leads w g).map eF) Q
def wsAt (rels : List Row) (leads : List Nat) (w g k : Nat) : Row := (List.range k).foldl (fun (ws : Row) (k : Nat) => ws.set (leads.getD k 0) (minusP (0, 1) ((rels.getD k []).getD g (0, 1)))) ((List.replicate w (0, 1)).set g (1, 1))
theorem wsAt_succ (rels : List Row) (leads : List Nat) (w g k : Nat) : wsAt rels leads w g (k + 1) = (wsAt rels leads w g k).set (leads.getD k 0) (minusP (0, 1) ((rels.getD k []).getD g (0, 1))) := by
  unfold wsAt
  rw [List.range_succ, List.foldl_append]
  rfl
theorem wsAt_len (rels : List Row) (leads : List Nat) (w g : Nat) : ∀ k, (wsAt rels leads w g k).length = w
  | 0 => by
    unfold wsAt
    show ((List.replicate w ((0 : Int), (1 : Int))).set g (1, 1)).length = w
    rw [List.length_set, List.length_replicate]
  | k + 1 => by rw [wsAt_succ, List.length_set, wsAt_len rels leads w g k]
theorem ok_weights_with (T : Tx K mg) : FnOk P w K mg base CX0 4 T.fWeightsWith T.dWeightsWith ["relations", "leads", "width", "column"] (spWith K) := by
  refine T.oWeightsWith.F.ok scWeightsWith (fun vs H Q E h => ?_) (fun cdv A outer s H vs Q E hr h => ?_)
  · obtain ⟨x, y, rels, leads, w, g, rfl, _⟩ := h
    rfl
  · obtain ⟨x, y, rels, leads, w, g, rfl, hx, hy, hl, hlw, hrs, hg, hw, hrl, q⟩ := h
    obtain ⟨a, xs, rfl, hS, hA⟩ := Dp_list hx
    have len : xs.length = rels.length := by rw [DpAll_len hA, List.length_map]
    refine ⟨_, (pss_cons 
        (ps_setLc (i := 4) (own := [("k", 5)]) (g := gName 5) (tt := tYes) rfl scWeightsWith.nd rfl rfl (sw_true rfl rfl rfl (by decide +kernel)) (pi_range1 (by rfl) T.range (pa_cons (pv 2) pa_nil)) (blkOk_by (N := NWeightsWith) (sc := defScope sWeightsWith) (by decide +kernel)) (fun _ _ _ _ _ => pg_name (i := 5) scWeightsWith.nd rfl (Or.inl rfl)) (fun _ _ _ _ _ => pts_nil) (fun _ _ _ _ _ => (pe_gr T.gZERO)))
      (pss_cons 
        (ps_asg (pe_gr T.gONE) (pg_sub (pv 4) (pv 3) set_list))
      (pss_cons 
        (ps_for PassesOwn.never rfl (pi_range1 (by rfl) T.range (pa_cons (pe_callB (clen K) (by rfl) T.len PySem.boot_len (pa_cons (pv 0) pa_nil)) pa_nil)) (pg_name (i := 5) scWeightsWith.nd rfl (.inl rfl))
          (pss_one 
            (ps_asg (pe_call (ok_minus T) (hr.mono (by decide)) (by rfl) T.oMinus.g T.oMinus.F.kp T.oMinus.b .nil pass0 (pa_cons (pe_gr T.gZERO) (pa_cons (pe_ix (ixl K) (pe_ix (ixl K) (pv 0) (pv 5) (fun _ _ => rfl)) (pv 3) (fun _ _ => rfl)) pa_nil))) (pg_sub (pv 4) (pe_ix (ixl K) (pv 1) (pv 5) (fun _ _ => rfl)) set_list))))
      (pss_one 
        (ps_ret (pv 4)))))), ?_⟩
    refine ⟨_, rfl, _, rfl, (small62 hw).1, (small62 hw).2, fun D hD => lc_mapR (K := K) (n := w) (ds := List.replicate w (eF (0, 1))) (by rw [List.length_replicate]) (by rw [List.length_replicate]; exact smallS hw) hD (fun k d H3 acc hk hd s3 hA3 Q' kk => ?_) (fun H1 vs s1 h1 hvs => ?_)⟩
    · rw [List.getElem?_replicate, if_pos hk] at hd
      cases hd
      exact kk H3 _ (Same.refl _) (zeroD T _)
    -- weights[column] = ONE
    have lv : vs.length = w := by rw [DpAll_len hvs, List.length_replicate]
    refine ⟨_, rfl, _, rfl, D, vs, _, g, rfl, rfl, h1, ixN_nat (by omega), ?_⟩
    -- the loop
    refine ⟨_, rfl, a, xs, rfl, .inl (Same.seq (same_mut s1 hD) hS), _, rfl, (small62 (by omega)).1, (small62 (by omega)).2, for_range (n := xs.length) (fun k σ H' => ∃ y5 vs, σ = [some (.ref a), some y, some (.int (w : Int)), some (.int (g : Int)), some (.ref D), y5] ∧ Same H H' ∧ H' D = some (.lst vs) ∧ DpAll K H' vs ((wsAt rels leads w g k).map eF))
      ⟨none, _, rfl, same_mut s1 hD, upd_same, ?_⟩ ?_ ?_⟩
    · have k1 : KeepT H1 (upd H1 D (.lst (vs.set g (.ref T.aONE)))) := keepT_upd (notup_lst h1)
      have e0 : (wsAt rels leads w g 0).map eF = (List.replicate w (eF (0, 1))).set g (eF (1, 1)) := by
        show ((List.replicate w ((0 : Int), (1 : Int))).set g (1, 1)).map eF = _
        rw [List.map_set, List.map_replicate]
      rw [e0]
      have hvs' : DpAll K H1 vs ((List.replicate w ((0 : Int), (1 : Int))).map eF) := by
        rw [List.map_replicate]
        exact hvs
      have := DpAll_keepF k1 hvs'
      rw [List.map_replicate] at this
      exact DpAll_set g this (oneD T _)
    · rintro k σ H' hk ⟨y5, vs, rfl, sH, hD', hds⟩
      rw [Int.zero_add]
      have hk' : k < rels.length := by
        rw [← len]
        exact hk
      obtain ⟨r1, r2⟩ := hrs _ (mem_getD (d := []) hk')
      have og := r2.at (by decide) g
      obtain ⟨p1, ys1, t1, e1, hS1, ht1, hd1⟩ := rows_at_is (Dp_mono sH _ _ hx) hk'
      obtain ⟨p2, ys2, t2, rfl, hS2, ht2, hd2⟩ := row_at_is hd1 (c := g) (by rw [r1]; exact hg)
      refine ⟨_, rfl, _, rfl, p1, ys1, _, _, e1, rfl, hS1, ht1, _, rfl, p2, ys2, _, _, rfl, rfl, hS2, ht2, .ref T.aZERO, t2, (0, 1), _, rfl, zeroD T _, hd2, ok01, og.1, small01.mono (by decide), og.2, trivial, fun H4 p s4 np hp => ?_⟩
      obtain ⟨p3, ys3, rfl, hS3, ht3⟩ := nat_at_is (Dp_mono (sH.trans s4) _ _ hy) (k := k) (by omega)
      have lw : (wsAt rels leads w g k).length = w := wsAt_len ..
      have lv : vs.length = w := by rw [DpAll_len hds, List.length_map, lw]
      have hlk : leads.getD k 0 < w := hlw _ (mem_getD (by omega))
      refine ⟨_, rfl, _, rfl, _, rfl, p3, ys3, _, _, rfl, rfl, hS3, ht3, D, vs, _, leads.getD k 0, rfl, rfl, s4 _ _ hD', ixN_nat (by omega), ?_⟩
      refine ⟨_, _, rfl, same_mut (sH.trans s4) hD, upd_same, ?_⟩
      rw [wsAt_succ, List.map_set]
      have k2 : KeepT H4 (upd H4 D (.lst (vs.set (leads.getD k 0) (.ref p)))) := keepT_upd (notup_lst (s4 _ _ hD'))
      exact DpAll_set _ (DpAll_keepF k2 (DpAll_mono s4 _ _ hds)) (Dp_keepF k2 (F_of hp))
    · rintro σ H' ⟨y5, vs, rfl, sH, hD', hds⟩
      refine ⟨_, rfl, q H' D vs sH hD hD' ?_⟩
      have : wsAt rels leads w g xs.length = weightsWith rels leads w g := by
        unfold weightsWith wsAt
        rw [len]
      rw [← this]
      exact hds
/-! ### weights_that_could_be -/
def spCould (K : PySem.W.Frag) : Sp := fun vs H Q _ => ∃ (x : V) (rels : List Row) (w : Nat), vs = [x, .int (w : Int)] ∧ Dp K H x (.list (rels.map eRow)) ∧ (∀ r ∈ rels, r.length = w ∧ SmallR 4000 r ∧ ∃ y ∈ r, y ≠ (0, 1)) ∧ w ≤ 1000 ∧ rels.length ≤ 1000 ∧ GivesL K H ((couldBe rels w).map eRow) Q
theorem inV_nats (c : Nat) : ∀ l : List Nat, inV (.int (c : Int)) (l.map fun (k : Nat) => V.int (k : Int)) = l.contains c := by
  intro l
  unfold inV
  rw [List.any_map, List.contains_eq_any_beq]
  refine congrArg (fun f => l.any f) (funext fun k => ?_)
  show eqV (.int (k : Int)) (.int (c : Int)) = (c == k)
  by_cases h : c = k
  · subst h
    rw [beq_self_eq_true]
    simp [eqV]
  · rw [beq_eq_false_iff_ne.mpr h]
    simp [eqV]
    omega
theorem flat_nats (l : List Nat) : (l.map fun (k : Nat) => V.int (k : Int)).all flatV = true := by
  rw [List.all_map]
  exact List.all_eq_true.mpr fun _ _ => rfl
theorem ok_weights_that_could_be (T : Tx K mg) : FnOk P w K mg base CX0 5 T.fWeightsThatCouldBe T.dWeightsThatCouldBe ["relations", "width"] (spCould K) := by
  refine T.oWeightsThatCouldBe.F.ok scWeightsThatCouldBe (fun vs H Q E h => ?_) (fun cdv A outer s H vs Q E hr h => ?_)
  · obtain ⟨x, rels, w, rfl, _⟩ := h
    rfl
  · obtain ⟨x, rels, w, rfl, hx, hrs, hw, hrl, q⟩ := h
    obtain ⟨a, xs, rfl, hS, hA⟩ := Dp_list hx
    have len : xs.length = rels.length := by rw [DpAll_len hA, List.length_map]
    refine ⟨_, (pss_cons 
        (ps_set (i := 2) scWeightsThatCouldBe.nd rfl (.inr rfl) (pe_lc (own := [("relation", 4)]) (g := gName 4) (tt := tYes) rfl scWeightsThatCouldBe.nd (pi_list (pv 0)) (blkOk_by (N := NWeightsThatCouldBe) (sc := defScope sWeightsThatCouldBe) (by decide +kernel)) (fun _ _ _ _ _ => pg_name (i := 4) scWeightsThatCouldBe.nd rfl (Or.inl rfl)) (fun _ _ _ _ _ => pts_nil) (fun _ _ _ _ _ => (pe_call (ok_lead_column T) (hr.mono (by decide)) (by rfl) T.oLeadColumn.g T.oLeadColumn.F.kp T.oLeadColumn.b .nil pass0 (pa_cons (pv 4) pa_nil)))))
      (pss_cons 
        (ps_setLc (i := 3) (own := [("column", 5)]) (g := gName 5) rfl scWeightsThatCouldBe.nd rfl rfl (sw_true rfl rfl rfl (by decide +kernel)) (pi_range1 (by rfl) T.range (pa_cons (pv 1) pa_nil)) (blkOk_by (N := NWeightsThatCouldBe) (sc := defScope sWeightsThatCouldBe) (by decide +kernel)) (fun _ _ _ _ _ => pg_name (i := 5) scWeightsThatCouldBe.nd rfl (Or.inl rfl)) (fun _ _ _ _ _ => pts_one (pt_cmpR (notinseq K) (pv 5) (pv 2) (by rfl))) (fun _ _ _ _ _ => (pv 5)))
      (pss_one 
        (ps_ret (pe_lc (own := [("column", 5)]) (g := gName 5) (tt := tYes) rfl scWeightsThatCouldBe.nd (pi_list (pv 3)) (blkOk_by (N := NWeightsThatCouldBe) (sc := defScope sWeightsThatCouldBe) (by decide +kernel)) (fun _ _ _ _ _ => pg_name (i := 5) scWeightsThatCouldBe.nd rfl (Or.inl rfl)) (fun _ _ _ _ _ => pts_nil) (fun _ _ _ _ _ => (pe_call (ok_weights_with T) (hr.mono (by decide)) (by rfl) T.oWeightsWith.g T.oWeightsWith.F.kp T.oWeightsWith.b .nil pass0 (pa_cons (pv 0) (pa_cons (pv 2) (pa_cons (pv 1) (pa_cons (pv 5) pa_nil))))))))))), ?_⟩
    -- leads
    refine ⟨_, rfl, a, rfl, ⟨_, hS⟩, fun D hD => lc_map (ds := eInts (rels.map leadColumn)) hS (by unfold eInts; rw [len, List.length_map, List.length_map]) (by unfold eInts; rw [List.length_map, List.length_map]; exact smallS hrl) hD (fun k x d H3 acc hk hd s3 hA3 Q' kk => ?_) (fun H1 ls s1 h1 hls => ?_)⟩
    · obtain ⟨e, he, hde⟩ := DpAll_at (DpAll_mono s3 _ _ hA) hk
      obtain ⟨r, hr, rfl⟩ := map_at he
      unfold eInts at hd
      rw [List.map_map] at hd
      obtain ⟨r', hr', rfl⟩ := map_at hd
      rw [hr] at hr'
      cases hr'
      exact ⟨_, rfl, x, r, rfl, hde, (hrs r (List.mem_of_getElem? hr)).2.2, kk H3 _ (Same.refl _) (.int _)⟩
    have els := eInts_is hls
    subst els
    have hlw : ∀ c ∈ rels.map leadColumn, c < w := fun c hc => by
      obtain ⟨r, hr, rfl⟩ := List.mem_map.mp hc
      obtain ⟨a1, a2, a3⟩ := hrs r hr
      rw [← a1]
      exact (lead_props a3).1
    have ll : (rels.map leadColumn).length = rels.length := List.length_map ..
    have ec : couldBe rels w = ((List.range w).filter fun c => !(rels.map leadColumn).contains c).map fun g => weightsWith rels (rels.map leadColumn) w g := rfl
    generalize rels.map leadColumn = leads at *
    -- free
    refine ⟨_, rfl, _, rfl, (small62 hw).1, (small62 hw).2, fun D2 hD2 => lc_filtR (K := K) (n := w) (p := fun c => !leads.contains c) (smallS hw) (by show 5 < 6; decide) hD2 (fun k H3 hk s3 Q' kk => ?_) (fun H2 fs s2 h2 hfs => ?_)⟩
    · refine ⟨_, rfl, _, rfl, D, _, rfl, .inl (SqL.of (s3 _ _ h1)), rfl, flat_nats _, _, rfl, ?_⟩
      show Q' (!inV (.int (k : Int)) (leads.map fun (k : Nat) => V.int (k : Int))) H3
      rw [inV_nats]
      exact kk
    have efs := eInts_is hfs
    subst efs
    have hfw : ∀ g ∈ (List.range w).filter fun c => !leads.contains c, g < w := fun g hg => List.mem_range.mp (List.mem_filter.mp hg).1
    have hfl : ((List.range w).filter fun c => !leads.contains c).length ≤ w := by
      have := List.length_filter_le (fun c => !leads.contains c) (List.range w)
      rw [List.length_range] at this
      exact this
    generalize (List.range w).filter (fun c => !leads.contains c) = fr at *
    refine ⟨_, rfl, D2, rfl, ⟨_, SqL.of h2⟩, fun D3 hD3 => lc_map (ds := (couldBe rels w).map eRow) (SqL.of h2) (by rw [ec, List.length_map, List.length_map, List.length_map]) (by rw [ec, List.length_map, List.length_map]; exact smallS (by omega)) hD3 (fun k x d H3 acc hk hd s3 hA3 Q' kk => ?_) (fun H5 rs s5 h5 hrs5 => q H5 D3 rs (s1.trans (s2.trans s5)) ((s1.trans s2).free hD3) h5 hrs5)⟩
    obtain ⟨g, hg, rfl⟩ := map_at hk
    rw [ec, List.map_map] at hd
    obtain ⟨g', hg', rfl⟩ := map_at hd
    rw [hg] at hg'
    cases hg'
    have u : Same H H3 := s1.trans (s2.trans s3)
    refine ⟨_, rfl, _, rfl, _, rfl, _, rfl, .ref a, .ref D, rels, leads, w, g, rfl, Dp_mono u _ _ hx, .lst (SqL.of ((s2.trans s3) _ _ h1)) (DpNats _ leads), ll, hlw, fun r hr => ⟨(hrs r hr).1, (hrs r hr).2.1⟩, hfw g (List.mem_of_getElem? hg), hw, hrl, gL (tup_Fs _) hA3 kk⟩
end
end Sl

/-! ratio_among. -/
namespace Sl
open PySem PySem.Spec PyProof.Rows L2
open Kp340 (Fr Mix Net)
section
variable {P : Program} {w : World} {K : PySem.W.Frag} {mg : Str → Option Value} {base : Heap}
/-- a fraction or None -/
def DpO (K : PySem.W.Frag) (H : Hp) (v : V) : Option Fr → Prop
  | none => v = .non
  | some q => Dp K H v (eF q)
theorem DpO_mono {H H' : Hp} {v : V} (s : Same H H') : ∀ {o : Option Fr}, DpO K H v o → DpO K H' v o
  | none, h => h
  | some q, h => Dp_mono s _ _ h
def spAmongR (K : PySem.W.Frag) : Sp := fun vs H Q _ => ∃ (x : V) (ch : List Row) (w i j : Nat), vs = [x, .int (i : Int), .int (j : Int)] ∧ Dp K H x (.list (ch.map eRow)) ∧ (∀ r ∈ ch, r.length = w ∧ SmallR 4000 r) ∧ i < w ∧ j < w ∧ ∀ H' v, Same H H' → DpO K H' v (ratioAmong ch i j) → Q v H'
theorem ref_non {p : Addr} : decide (V.ref p = V.non) = false := decide_eq_false (by intro z; cases z)
theorem ratioGo_step {i j : Nat} {ws : Row} {l : List Row} {f : Option Fr} : ratioGo i j (ws :: l) f = if ws.getD j (0, 1) = (0, 1) then (if ws.getD i (0, 1) = (0, 1) then ratioGo i j l f else none) else
    if f ≠ none ∧ f ≠ some (overP (ws.getD i (0, 1)) (ws.getD j (0, 1))) then none else ratioGo i j l (some (overP (ws.getD i (0, 1)) (ws.getD j (0, 1)))) := rfl
theorem ok_ratio_among (T : Tx K mg) : FnOk P w K mg base CX0 4 T.fRatioAmong T.dRatioAmong ["choices", "i", "j"] (spAmongR K) := by
  refine T.oRatioAmong.F.ok scRatioAmong (fun vs H Q E h => ?_) (fun cdv A outer s H vs Q E hr h => ?_)
  · obtain ⟨x, ch, w, i, j, rfl, _⟩ := h
    rfl
  · obtain ⟨x, ch, w, i, j, rfl, hx, hch, hi, hj, q⟩ := h
    obtain ⟨a, xs, rfl, hS, hA⟩ := Dp_list hx
    have len : xs.length = ch.length := by rw [DpAll_len hA, List.length_map]
    refine ⟨_, (pss_cons 
        (ps_set (i := 3) scRatioAmong.nd rfl (.inl rfl) pe_non)
      (pss_cons 
        (ps_for PassesOwn.never rfl (pi_list (pv 0)) (pg_name (i := 4) scRatioAmong.nd rfl (.inl rfl))
          (pss_one 
            (ps_if (pt_cmpR (eqd K (hu64 hr)) (pe_ix (ixl K) (pv 4) (pv 2) (fun _ _ => rfl)) (pe_gr T.gZERO) (nomark _))
              (pss_one 
                (ps_if (pt_cmpR (ned K (hu64 hr)) (pe_ix (ixl K) (pv 4) (pv 1) (fun _ _ => rfl)) (pe_gr T.gZERO) (nomark _))
                  (pss_one 
                    (ps_ret pe_non)) pss_nil))
              (pss_cons 
                (ps_set (i := 5) scRatioAmong.nd rfl (.inl rfl) (pe_call (ok_over T) (hr.mono (by decide)) (by rfl) T.oOver.g T.oOver.F.kp T.oOver.b .nil pass0 (pa_cons (pe_ix (ixl K) (pv 4) (pv 1) (fun _ _ => rfl)) (pa_cons (pe_ix (ixl K) (pv 4) (pv 2) (fun _ _ => rfl)) pa_nil))))
              (pss_cons 
                (ps_if (PW.pt (pw_and (pt_cmpR op_notN (pv 3) pe_non (nomark _)) (pw_and1 (pt_cmpR (ned K (hu64 hr)) (pv 3) (pv 5) (nomark _)))))
                  (pss_one 
                    (ps_ret pe_non)) pss_nil)
              (pss_one 
                (ps_set (i := 3) scRatioAmong.nd rfl (.inl rfl) (pv 5))))))))
      (pss_cons 
        (ps_if (PW.pt (pw_or (pt_cmpR op_isN (pv 3) pe_non (nomark _)) (pw_or1 (pt_cmpR op_le (pe_ix (ixt K) (pv 3) pe_int (fun _ _ => rfl)) pe_int (nomark _)))))
          (pss_one 
            (ps_ret pe_non)) pss_nil)
      (pss_one 
        (ps_ret (pv 3)))))), ?_⟩
    refine ⟨_, rfl, a, rfl, ⟨_, hS⟩, for_list (K := K) (a := a) (xs := xs) (fun k σ H' => ∃ v3 f y4 y5, σ = [some (.ref a), some (.int (i : Int)), some (.int (j : Int)), some v3, y4, y5] ∧ Same H H' ∧ DpO K H' v3 f ∧ ratioGo i j ch none = ratioGo i j (ch.drop k) f)
      ⟨.non, none, none, none, rfl, Same.refl _, rfl, rfl⟩ (fun k σ H' _ ⟨_, _, _, _, _, s5, _⟩ => Same.seq s5 hS) ?_ ?_⟩
    · rintro k v σ H' hk ⟨v3, f, y4, y5, rfl, sH, h3, ego⟩
      obtain ⟨e, he, hde⟩ := DpAll_at (DpAll_mono sH _ _ hA) hk
      obtain ⟨r, hr, rfl⟩ := map_at he
      obtain ⟨r1, r2⟩ := hch r (List.mem_of_getElem? hr)
      have ed : ch.drop k = r :: ch.drop (k + 1) := by
        obtain ⟨hk1, rfl⟩ := List.getElem?_eq_some_iff.mp hr
        exact List.drop_eq_getElem_cons hk1
      rw [ed, ratioGo_step] at ego
      have oi := r2.at (by decide) i
      have oj := r2.at (by decide) j
      obtain ⟨p1, ys1, t1, rfl, hS1, ht1, hd1⟩ := row_at_is hde (c := j) (by omega)
      obtain ⟨p2, ys2, t2, e2, hS2, ht2, hd2⟩ := row_at_is hde (c := i) (by omega)
      cases e2
      refine ⟨_, rfl, _, rfl, p1, ys1, _, _, rfl, rfl, hS1, ht1, eF _, eF (0, 1), hd1, zeroD T _, shaped_F _, shaped_F _, _, rfl, ite2 (fun hz => ?_) (fun hz => ?_)⟩
      · rw [eqv_F] at hz
        rw [if_pos (of_decide_eq_true hz)] at ego
        refine ⟨_, rfl, _, rfl, p1, ys2, _, _, rfl, rfl, hS2, ht2, eF _, eF (0, 1), hd2, zeroD T _, shaped_F _, shaped_F _, _, rfl, ite2 (fun hz2 => ?_) (fun hz2 => ?_)⟩
        · rw [eqv_F] at hz2
          have hz2 : r.getD i (0, 1) ≠ (0, 1) := by simpa using hz2
          rw [if_neg hz2] at ego
          refine q _ _ sH ?_
          unfold ratioAmong
          rw [ego]
          rfl
        · rw [eqv_F] at hz2
          have hz2 : r.getD i (0, 1) = (0, 1) := by simpa using hz2
          rw [if_pos hz2] at ego
          exact ⟨v3, f, _, _, rfl, sH, h3, ego⟩
      · rw [eqv_F] at hz
        have hz : r.getD j (0, 1) ≠ (0, 1) := fun z => hz (decide_eq_true z)
        rw [if_neg hz] at ego
        refine ⟨_, rfl, _, rfl, p1, ys2, _, _, rfl, rfl, hS2, ht2, _, rfl, _, rfl, p1, ys1, _, _, rfl, rfl, hS1, ht1, t2, t1, _, _, rfl, hd2, hd1, oi.1, oj.1, oi.2, oj.2, ne_zero oj.1 hz, fun H4 p s4 np hp => ?_⟩
        have hhere : Dp K H4 (.ref p) (eF (overP (r.getD i (0, 1)) (r.getD j (0, 1)))) := F_of hp
        generalize overP (r.getD i (0, 1)) (r.getD j (0, 1)) = here at *
        cases f with
        | none =>
          cases h3
          refine ⟨_, rfl, rfl, _, rfl, ite2 (fun z => absurd z (by decide)) (fun _ => ite2 (fun z => absurd z (by decide)) (fun _ => ?_))⟩
          rw [if_neg (fun z => z.1 rfl)] at ego
          exact ⟨_, rfl, _, some here, _, _, rfl, sH.trans s4, hhere, ego⟩
        | some q0 =>
          have h3' : Dp K H4 v3 (eF q0) := Dp_mono s4 _ _ h3
          obtain ⟨p0, rfl, hp0⟩ := Dp_F h3'
          refine ⟨_, rfl, rfl, _, rfl, ite2 (fun _ => ?_) (fun z => absurd (by rfl) z)⟩
          refine ⟨_, rfl, _, rfl, eF q0, eF here, h3', hhere, shaped_F _, shaped_F _, _, rfl, ite2 (fun hz2 => ?_) (fun hz2 => ?_)⟩
          · rw [eqv_F] at hz2
            have hz2 : q0 ≠ here := by simpa using hz2
            rw [if_pos ⟨(by intro z; cases z), fun z => hz2 (Option.some.inj z)⟩] at ego
            refine q _ _ (sH.trans s4) ?_
            unfold ratioAmong
            rw [ego]
            rfl
          · rw [eqv_F] at hz2
            have hz2 : q0 = here := by simpa using hz2
            subst hz2
            rw [if_neg (fun z => z.2 rfl)] at ego
            exact ⟨_, rfl, _, some q0, _, _, rfl, sH.trans s4, hhere, ego⟩
    · rintro σ H' ⟨v3, f, y4, y5, rfl, sH, h3, ego⟩
      rw [len, List.drop_length] at ego
      have ego : ratioGo i j ch none = some f := ego
      cases f with
      | none =>
        cases h3
        refine ⟨_, rfl, rfl, _, rfl, ite2 (fun _ => ite2 (fun _ => ?_) (fun z => absurd (by rfl) z)) (fun z => absurd (by rfl) z)⟩
        refine q _ _ sH ?_
        unfold ratioAmong
        rw [ego]
        rfl
      | some q0 =>
        obtain ⟨p0, rfl, hp0⟩ := Dp_F h3
        refine ⟨_, rfl, rfl, _, rfl, ite2 (fun z => absurd z (by rw [ref_non]; decide)) (fun _ => ?_)⟩
        refine ⟨_, rfl, p0, _, 0, _, rfl, rfl, hp0, at0, _, _, rfl, rfl, _, rfl, ite2 (fun hz => ?_) (fun hz => ?_)⟩
        · have hz : q0.1 ≤ 0 := of_decide_eq_true hz
          refine q _ _ sH ?_
          unfold ratioAmong
          rw [ego]
          show DpO K H' .non (if q0.1 ≤ 0 then none else some q0)
          rw [if_pos hz]
          rfl
        · have hz : ¬ q0.1 ≤ 0 := fun z => hz (decide_eq_true z)
          refine ⟨_, rfl, q _ _ sH ?_⟩
          unfold ratioAmong
          rw [ego]
          show DpO K H' _ (if q0.1 ≤ 0 then none else some q0)
          rw [if_neg hz]
          exact h3
end
end Sl

/-! mixtures_of, numbers_taken, mixtures_taken, brought, more_by. -/
namespace Sl
open PySem PySem.Spec PyProof.Rows L2
open Kp340 (Fr Mix Net)
/-! ### mixtures as data -/
theorem tup_nats : ∀ l : List Nat, tupAll (l.map fun (n : Nat) => PyData.int (n : Int)) = true
  | [] => rfl
  | _ :: l => tup_nats l
theorem tup_mix (x : Mix) : tupD (eMix x) = true := tup_nats x
theorem tup_mixes : ∀ l : List Mix, tupAll (l.map eMix) = true
  | [] => rfl
  | x :: l => by
    show (tupD (eMix x) && tupAll (l.map eMix)) = true
    rw [tup_mix, tup_mixes l]
    rfl
theorem tup_rule (r : Kp340.Rule) : tupD (eRule r) = true := by
  show (tupD (eMix r.left) && (tupD (eMix r.right) && (tupD (eF r.speed) && true))) = true
  rw [tup_mix, tup_mix, tup_F]
  rfl
theorem tup_rules : ∀ l : List Kp340.Rule, tupAll (l.map eRule) = true
  | [] => rfl
  | x :: l => by
    show (tupD (eRule x) && tupAll (l.map eRule)) = true
    rw [tup_rule, tup_rules l]
    rfl
theorem lay_nats : ∀ l : List Nat, PyData.canLayAll0 (l.map fun (n : Nat) => PyData.int (n : Int)) = true ∧ PyData.depthAll (l.map fun (n : Nat) => PyData.int (n : Int)) = 0
  | [] => ⟨rfl, rfl⟩
  | n :: l => by
    obtain ⟨a, b⟩ := lay_nats l
    refine ⟨a, ?_⟩
    show max 0 (PyData.depthAll (l.map fun (n : Nat) => PyData.int (n : Int))) = 0
    rw [b]
    rfl
theorem lay_mix (x : Mix) : (eMix x).canLay0 = true ∧ (eMix x).depth = 1 := by
  obtain ⟨a, b⟩ := lay_nats x
  refine ⟨a, ?_⟩
  show PyData.depthAll (x.map fun (n : Nat) => PyData.int (n : Int)) + 1 = 1
  rw [b]
theorem lay_mixes : ∀ l : List Mix, PyData.canLayAll0 (l.map eMix) = true ∧ PyData.depthAll (l.map eMix) ≤ 1
  | [] => ⟨rfl, Nat.zero_le _⟩
  | x :: l => by
    obtain ⟨a, b⟩ := lay_mixes l
    obtain ⟨c, d⟩ := lay_mix x
    refine ⟨?_, ?_⟩
    · show ((eMix x).canLay0 && PyData.canLayAll0 (l.map eMix)) = true
      rw [a, c]
      rfl
    · show max (eMix x).depth (PyData.depthAll (l.map eMix)) ≤ 1
      rw [d]
      omega
theorem shaped_mix (x : Mix) : SeqAt.shaped (eMix x) = true := by
  obtain ⟨a, b⟩ := lay_mix x
  unfold SeqAt.shaped
  rw [a, b]
  rfl
theorem shaped_mixes (l : List Mix) : SeqAt.shaped (.list (l.map eMix)) = true := by
  obtain ⟨a, b⟩ := lay_mixes l
  unfold SeqAt.shaped
  show (PyData.canLayAll0 (l.map eMix) && decide (PyData.depthAll (l.map eMix) + 1 ≤ 64)) = true
  rw [a, decide_eq_true (by omega)]
  rfl
theorem eqv_nats : ∀ a b : List Nat, PyData.eqvAll (a.map fun (n : Nat) => PyData.int (n : Int)) (b.map fun (n : Nat) => PyData.int (n : Int)) = decide (a = b)
  | [], [] => rfl
  | [], _ :: _ => rfl
  | _ :: _, [] => rfl
  | x :: a, y :: b => by
    show (((x : Int) == (y : Int)) && PyData.eqvAll (a.map fun (n : Nat) => PyData.int (n : Int)) (b.map fun (n : Nat) => PyData.int (n : Int))) = decide (x :: a = y :: b)
    rw [eqv_nats a b]
    by_cases h1 : x = y
    · subst h1
      rw [beq_self_eq_true, Bool.true_and]
      by_cases h2 : a = b
      · rw [decide_eq_true h2, decide_eq_true (by rw [h2])]
      · rw [decide_eq_false h2, decide_eq_false (fun z => h2 (List.cons.inj z).2)]
    · rw [beq_eq_false_iff_ne.mpr (by omega), decide_eq_false (fun z => h1 (List.cons.inj z).1)]
      rfl
theorem eqv_mix (a b : Mix) : PyData.eqv (eMix a) (eMix b) = decide (a = b) := eqv_nats a b
theorem any_mix (x : Mix) (l : List Mix) : ((l.map eMix).any fun z => PyData.eqv z (eMix x)) = l.contains x := by
  rw [List.any_map, List.contains_eq_any_beq]
  refine congrArg (fun f => l.any f) (funext fun y => ?_)
  show PyData.eqv (eMix y) (eMix x) = (x == y)
  rw [eqv_mix]
  by_cases h : y = x
  · subst h
    rw [decide_eq_true rfl, beq_self_eq_true]
  · rw [decide_eq_false h, beq_eq_false_iff_ne.mpr fun z => h z.symm]
section
variable {P : Program} {w : World} {K : PySem.W.Frag} {mg : Str → Option Value} {base : Heap}
theorem Dp_keep {H H' : Hp} {v : V} {d : PyData} (k : KeepT H H') (t : tupD d = true) (h : Dp K H v d) : Dp K H' v d := Dp_tup k _ _ t h
/-- a rule: its three parts -/
theorem Dp_rule {H : Hp} {v : V} {r : Kp340.Rule} (h : Dp K H v (eRule r)) : ∃ p a b c, v = .ref p ∧ SqT K H p [a, b, c] ∧ Dp K H a (eMix r.left) ∧ Dp K H b (eMix r.right) ∧ Dp K H c (eF r.speed) := by
  obtain ⟨p, xs, rfl, hS, hA⟩ := Dp_tuple h
  cases hA with
  | cons h1 hA =>
    cases hA with
    | cons h2 hA =>
      cases hA with
      | cons h3 hA =>
        cases hA
        exact ⟨p, _, _, _, rfl, hS, h1, h2, h3⟩
theorem t0 {x y z : V} : atI [x, y, z] 0 = some x := atI_nat (j := 0) rfl
theorem t1 {x y z : V} : atI [x, y, z] 1 = some y := atI_nat (j := 1) rfl
theorem t2 {x y z : V} : atI [x, y, z] 2 = some z := atI_nat (j := 2) rfl
theorem mix_at {H : Hp} {v : V} {x : Mix} {s : Nat} (h : Dp K H v (eMix x)) (hs : s < x.length) : ∃ p xs, v = .ref p ∧ SqT K H p xs ∧ atI xs (s : Int) = some (.int ((x.getD s 0 : Nat) : Int)) := by
  obtain ⟨p, xs, rfl, hS, hA⟩ := Dp_tuple h
  have e := eInts_is hA
  subst e
  refine ⟨p, _, rfl, hS, atI_of ?_⟩
  rw [List.getElem?_map, get_at 0 hs]
  rfl
/-! ### mixtures_of -/
def spMix (K : PySem.W.Frag) : Sp := fun vs H Q _ => ∃ (x : V) (rules : List Kp340.Rule), vs = [x] ∧ Dp K H x (.list (rules.map eRule)) ∧ rules.length ≤ 400 ∧ GivesL K H ((mixturesOf rules).map eMix) Q
def mixStep (ms : List Mix) (r : Kp340.Rule) : List Mix := addMix (addMix ms r.left) r.right
theorem mixK_succ {rules : List Kp340.Rule} {k : Nat} {r : Kp340.Rule} (h : rules[k]? = some r) : mixturesOf (rules.take (k + 1)) = addMix (addMix (mixturesOf (rules.take k)) r.left) r.right := by
  unfold mixturesOf
  rw [take_at h, List.foldl_append]
  rfl
theorem mixturesOf_len (rules : List Kp340.Rule) : (mixturesOf rules).length ≤ 2 * rules.length := by
  have := fold_len rules []
  simpa [mixturesOf] using this
theorem ok_mixtures_of (T : Tx K mg) : FnOk P w K mg base CX0 1 T.fMixturesOf T.dMixturesOf ["rules"] (spMix K) := by
  refine T.oMixturesOf.F.ok scMixturesOf (fun vs H Q E h => ?_) (fun cdv A outer s H vs Q E hr h => ?_)
  · obtain ⟨x, rules, rfl, _⟩ := h
    rfl
  · obtain ⟨x, rules, rfl, hx, h8, q⟩ := h
    obtain ⟨a, xs, rfl, hS, hA⟩ := Dp_list hx
    have len : xs.length = rules.length := by rw [DpAll_len hA, List.length_map]
    refine ⟨_, (pss_cons 
        (ps_set (i := 1) scMixturesOf.nd rfl (.inl rfl) (pe_lst pa_nil))
      (pss_cons 
        (ps_for PassesOwn.never rfl (pi_list (pv 0)) (pg_name (i := 2) scMixturesOf.nd rfl (.inl rfl))
          (pss_one 
            (ps_for PassesOwn.never rfl (pi_tup (pe_tup (pa_cons (pe_ix (ixt K) (pv 2) pe_int (fun _ _ => rfl)) (pa_cons (pe_ix (ixt K) (pv 2) pe_int (fun _ _ => rfl)) pa_nil)))) (pg_name (i := 3) scMixturesOf.nd rfl (.inl rfl))
              (pss_one 
                (ps_if (pt_cmpR (notind K (hu65 hr)) (pv 3) (pv 1) (by rfl))
                  (pss_one 
                    (ps_expr (pe_bm PySem.F.plainAttrs_list PySem.F.slot_list_append PySem.F.type_list_append mt_append (pv 1) (pa_cons (pv 3) pa_nil)))) pss_nil)))))
      (pss_one 
        (ps_ret (pv 1))))), ?_⟩
    refine ⟨Nat.zero_le _, fun pm npm => ?_⟩
    have s1 : Same H (upd H pm (.lst [])) := same_upd npm
    refine ⟨_, rfl, a, rfl, ⟨_, Same.seq s1 hS⟩, for_list (K := K) (a := a) (xs := xs) (fun k σ H' => ∃ y2 y3 vs, σ = [some (.ref a), some (.ref pm), y2, y3] ∧ Same H H' ∧ H' pm = some (.lst vs) ∧ DpAll K H' vs ((mixturesOf (rules.take k)).map eMix))
      ⟨none, none, [], rfl, s1, upd_same, .nil⟩ (fun k σ H' _ ⟨_, _, _, _, s5, _⟩ => Same.seq s5 hS) ?_ ?_⟩
    · rintro k v σ H' hk ⟨y2, y3, vs, rfl, sH, hpm, hvs⟩
      obtain ⟨e, he, hde⟩ := DpAll_at (DpAll_mono sH _ _ hA) hk
      obtain ⟨r, hr, rfl⟩ := map_at he
      have es := mixK_succ hr
      obtain ⟨hkl, _⟩ := List.getElem?_eq_some_iff.mp hr
      have lms := mixturesOf_len (rules.take k)
      rw [List.length_take] at lms
      generalize mixturesOf (rules.take k) = ms at *
      obtain ⟨p, vl, vr, vsp, rfl, hT, hl, hrt, _⟩ := Dp_rule hde
      -- (rule[0], rule[1])
      refine ⟨_, rfl, p, _, 0, _, rfl, rfl, hT, t0, _, rfl, p, _, 1, _, rfl, rfl, hT, t1, by show 2 ≤ sizeLine; decide, fun t nt => ?_⟩
      have s2 : Same H' (upd H' t (.tup [vl, vr])) := same_upd nt
      have hl2 := Dp_mono s2 _ _ hl
      have hr2 := Dp_mono s2 _ _ hrt
      refine ⟨t, rfl, ⟨_, SqT.of upd_same⟩, for_tup (K := K) (a := t) (xs := [vl, vr]) (fun i σ H2 => ∃ y3 vs ms2, σ = [some (.ref a), some (.ref pm), some (.ref p), y3] ∧ Same H H2 ∧ H2 pm = some (.lst vs) ∧ H2 t = some (.tup [vl, vr]) ∧ Dp K H2 vl (eMix r.left) ∧ Dp K H2 vr (eMix r.right) ∧ DpAll K H2 vs (ms2.map eMix) ∧ ms2.length ≤ ms.length + i ∧ ms2 = (if i = 0 then ms else if i = 1 then addMix ms r.left else addMix (addMix ms r.left) r.right))
        ⟨y3, vs, ms, rfl, sH.trans s2, s2 _ _ hpm, upd_same, hl2, hr2, DpAll_mono s2 _ _ hvs, Nat.le_refl _, rfl⟩ (fun i σ H2 _ ⟨_, _, _, _, _, _, h, _⟩ => SqT.of h) ?_ ?_⟩
      · rintro i v σ H2 hi ⟨y3, vs, ms2, rfl, sH2, hpm2, ht2, hl3, hr3, hvs2, hlm, ems⟩
        have hmix : ∃ m : Mix, Dp K H2 v (eMix m) ∧ (if i + 1 = 0 then ms else if i + 1 = 1 then addMix ms r.left else addMix (addMix ms r.left) r.right) = addMix ms2 m := by
          match i, hi, ems with
          | 0, hi, ems =>
            have : vl = v := Option.some.inj hi
            subst this
            exact ⟨r.left, hl3, by rw [ems]; rfl⟩
          | 1, hi, ems =>
            have : vr = v := Option.some.inj hi
            subst this
            exact ⟨r.right, hr3, by rw [ems]; rfl⟩
          | i + 2, hi, _ => simp at hi
        obtain ⟨m, hm, em⟩ := hmix
        have hdl : Dp K H2 (.ref pm) (.list (ms2.map eMix)) := .lst (SqL.of hpm2) hvs2
        have hi2 : i < 2 := (List.getElem?_eq_some_iff.mp hi).1
        have lv : vs.length = ms2.length := by rw [DpAll_len hvs2, List.length_map]
        refine ⟨_, rfl, _, rfl, eMix m, ms2.map eMix, hm, hdl, shaped_mix m, shaped_mixes ms2, _, rfl, ite2 (fun hc => ?_) (fun hc => ?_)⟩
        · rw [any_mix] at hc
          have hc : ms2.contains m = false := by simpa using hc
          have ea : addMix ms2 m = ms2 ++ [m] := by
            unfold addMix
            rw [hc]
            rfl
          refine ⟨_, rfl, .inl ⟨rfl, _, SqL.of hpm2⟩, _, rfl, pm, vs, _, rfl, rfl, hpm2, smallS (by omega), ?_⟩
          have k2 : KeepT H2 (upd H2 pm (.lst (vs ++ [v]))) := keepT_upd (notup_lst hpm2)
          have nt : t ≠ pm := fun e => by
            rw [e, hpm2] at ht2
            cases ht2
          refine ⟨_, vs ++ [v], ms2 ++ [m], rfl, same_mut sH2 npm, upd_same, by rw [upd_ne nt]; exact ht2, Dp_keep k2 (tup_mix _) hl3, Dp_keep k2 (tup_mix _) hr3, ?_, by rw [List.length_append]; show ms2.length + 1 ≤ _; omega, by rw [em, ea]⟩
          rw [List.map_append]
          exact DpAll_app (DpAll_tup k2 _ _ (tup_mixes _) hvs2) (DpAll_one (Dp_keep k2 (tup_mix _) hm))
        · rw [any_mix] at hc
          have hc : ms2.contains m = true := by simpa using hc
          have ea : addMix ms2 m = ms2 := by
            unfold addMix
            rw [hc]
            rfl
          exact ⟨_, vs, ms2, rfl, sH2, hpm2, ht2, hl3, hr3, hvs2, by omega, by rw [em, ea]⟩
      · rintro σ H2 ⟨y3, vs, ms2, rfl, sH2, hpm2, ht2, hl3, hr3, hvs2, hlm, ems⟩
        refine ⟨_, _, vs, rfl, sH2, hpm2, ?_⟩
        have ems : ms2 = addMix (addMix ms r.left) r.right := ems
        rw [es, ← ems]
        exact hvs2
    · rintro σ H' ⟨y2, y3, vs, rfl, sH, hpm, hvs⟩
      rw [len, List.take_length] at hvs
      exact ⟨_, rfl, q H' pm vs sH npm hpm hvs⟩
end
end Sl

/-! numbers_taken, mixtures_taken, brought, more_by. -/
namespace Sl
open PySem PySem.Spec PyProof.Rows L2
open Kp340 (Fr Mix Net)
section
variable {P : Program} {w : World} {K : PySem.W.Frag} {mg : Str → Option Value} {base : Heap}
/-- an item of a list of mixtures -/
theorem mixes_at {H : Hp} {v : V} {ms : List Mix} {k : Nat} (h : Dp K H v (.list (ms.map eMix))) (hk : k < ms.length) : ∃ p xs y, v = .ref p ∧ SqL K H p xs ∧ atI xs (k : Int) = some y ∧ Dp K H y (eMix (ms.getD k [])) := by
  obtain ⟨p, xs, rfl, hS, hA⟩ := Dp_list h
  obtain ⟨y, hy, hd⟩ := DpAll_get (i := k) (d := eMix (ms.getD k [])) hA (by rw [List.getElem?_map, get_at [] hk]; rfl)
  exact ⟨p, xs, y, rfl, hS, atI_of hy, hd⟩
/-! ### numbers_taken -/
def spNums (K : PySem.W.Frag) : Sp := fun vs H Q _ => ∃ (x : V) (rules : List Kp340.Rule), vs = [x] ∧ Dp K H x (.list (rules.map eRule)) ∧ rules.length ≤ 400 ∧ GivesL K H (eInts (numbersTaken rules)) Q
/-- what a comprehension made: a list of tuples stays one -/
theorem gT {H3 : Hp} {D : Addr} {acc : List V} {v : V} {d : PyData} {Q' : VK} (t : tupD d = true) (hD : H3 D = some (.lst acc)) (h : Dp K H3 v d) (k : ∀ H4 y, Same H3 H4 → Dp K (hide H4 D) y d → Q' y H4) : Q' v H3 :=
  k H3 v (Same.refl _) (Dp_keep (keepT_hide (notup_lst hD)) t h)
theorem ok_numbers_taken (T : Tx K mg) : FnOk P w K mg base CX0 2 T.fNumbersTaken T.dNumbersTaken ["rules"] (spNums K) := by
  refine T.oNumbersTaken.F.ok scNumbersTaken (fun vs H Q E h => ?_) (fun cdv A outer s H vs Q E hr h => ?_)
  · obtain ⟨x, rules, rfl, _⟩ := h
    rfl
  · obtain ⟨x, rules, rfl, hx, h8, q⟩ := h
    obtain ⟨a, xs, rfl, hS, hA⟩ := Dp_list hx
    have len : xs.length = rules.length := by rw [DpAll_len hA, List.length_map]
    refine ⟨_, (pss_cons 
        (ps_set (i := 1) scNumbersTaken.nd rfl (.inr rfl) (pe_call (ok_mixtures_of T) (hr.mono (by decide)) (by rfl) T.oMixturesOf.g T.oMixturesOf.F.kp T.oMixturesOf.b .nil pass0 (pa_cons (pv 0) pa_nil)))
      (pss_cons 
        (ps_set (i := 2) scNumbersTaken.nd rfl (.inr rfl) (pe_lc (own := [("rule", 3)]) (g := gName 3) (tt := tYes) rfl scNumbersTaken.nd (pi_list (pv 0)) (blkOk_by (N := NNumbersTaken) (sc := defScope sNumbersTaken) (by decide +kernel)) (fun _ _ _ _ _ => pg_name (i := 3) scNumbersTaken.nd rfl (Or.inl rfl)) (fun _ _ _ _ _ => pts_nil) (fun _ _ _ _ _ => (pe_ix (ixt K) (pv 3) pe_int (fun _ _ => rfl)))))
      (pss_one 
        (ps_ret (pe_lc (own := [("i", 4)]) (g := gName 4) rfl scNumbersTaken.nd (pi_range1 (by rfl) T.range (pa_cons (pe_callB (clen K) (by rfl) T.len PySem.boot_len (pa_cons (pv 1) pa_nil)) pa_nil)) (blkOk_by (N := NNumbersTaken) (sc := defScope sNumbersTaken) (by decide +kernel)) (fun _ _ _ _ _ => pg_name (i := 4) scNumbersTaken.nd rfl (Or.inl rfl)) (fun _ _ _ _ _ => pts_one (pt_cmpR (ind K (hu65 hr)) (pe_ix (ixl K) (pv 1) (pv 4) (fun _ _ => rfl)) (pv 2) (by rfl))) (fun _ _ _ _ _ => (pv 4))))))), ?_⟩
    refine ⟨_, rfl, _, rules, rfl, hx, h8, fun H1 pm ms s1 npm hpm hms => ?_⟩
    have lm : ms.length = (mixturesOf rules).length := by rw [DpAll_len hms, List.length_map]
    have lm2 := mixturesOf_len rules
    -- lefts
    refine ⟨_, rfl, a, rfl, ⟨_, Same.seq s1 hS⟩, fun D hD => lc_map (ds := (rules.map (·.left)).map eMix) (Same.seq s1 hS) (by rw [len, List.length_map, List.length_map]) (by rw [List.length_map, List.length_map]; exact smallS (by omega)) hD (fun k x d H3 acc hk hd s3 hA3 Q' kk => ?_) (fun H2 ls s2 h2 hls => ?_)⟩
    · obtain ⟨e, he, hde⟩ := DpAll_at (DpAll_mono (s1.trans s3) _ _ hA) hk
      obtain ⟨r, hr, rfl⟩ := map_at he
      rw [List.map_map] at hd
      obtain ⟨r', hr', rfl⟩ := map_at hd
      rw [hr] at hr'
      cases hr'
      obtain ⟨p, vl, vr, vsp, rfl, hT, hl, _, _⟩ := Dp_rule hde
      exact ⟨_, rfl, p, _, 0, _, rfl, rfl, hT, t0, gT (tup_mix _) hA3 hl kk⟩
    -- the numbers
    have hM : Dp K H2 (.ref pm) (.list ((mixturesOf rules).map eMix)) := .lst (SqL.of (s2 _ _ hpm)) (DpAll_mono s2 _ _ hms)
    have hL : Dp K H2 (.ref D) (.list ((rules.map (·.left)).map eMix)) := .lst (SqL.of h2) hls
    refine ⟨_, rfl, pm, ms, rfl, .inl (SqL.of (s2 _ _ hpm)), _, rfl, (small62 (by omega)).1, (small62 (by omega)).2, fun D2 hD2 => lc_filtR (K := K) (n := ms.length) (p := fun i => (rules.map (·.left)).contains ((mixturesOf rules).getD i [])) (smallS (by omega)) (by show 4 < 5; decide) hD2 (fun k H3 hk s3 Q' kk => ?_) (fun H4 ns s4 h4 hns => ?_)⟩
    · obtain ⟨p, ys, y, e, hSy, hy, hdy⟩ := mixes_at (Dp_mono s3 _ _ hM) (k := k) (by omega)
      cases e
      refine ⟨_, rfl, _, rfl, pm, ys, _, _, rfl, rfl, hSy, hy, _, rfl, eMix _, _, hdy, Dp_mono s3 _ _ hL, shaped_mix _, shaped_mixes _, _, rfl, ?_⟩
      rw [any_mix]
      exact kk
    · refine q H4 D2 ns (s1.trans (s2.trans s4)) ((s1.trans s2).free hD2) h4 ?_
      rw [lm] at hns
      exact hns
/-! ### mixtures_taken -/
def spTaken (K : PySem.W.Frag) : Sp := fun vs H Q _ => ∃ (x : V) (rules : List Kp340.Rule), vs = [x] ∧ Dp K H x (.list (rules.map eRule)) ∧ rules.length ≤ 400 ∧ GivesL K H ((mixturesTaken rules).map eMix) Q
theorem nums_lt {rules : List Kp340.Rule} {i : Nat} (h : i ∈ numbersTaken rules) : i < (mixturesOf rules).length := List.mem_range.mp (List.mem_filter.mp h).1
theorem nums_len (rules : List Kp340.Rule) : (numbersTaken rules).length ≤ (mixturesOf rules).length := by
  unfold numbersTaken
  have := List.length_filter_le (fun i => (rules.map (·.left)).contains ((mixturesOf rules).getD i [])) (List.range (mixturesOf rules).length)
  rw [List.length_range] at this
  exact this
theorem ok_mixtures_taken (T : Tx K mg) : FnOk P w K mg base CX0 3 T.fMixturesTaken T.dMixturesTaken ["rules"] (spTaken K) := by
  refine T.oMixturesTaken.F.ok scMixturesTaken (fun vs H Q E h => ?_) (fun cdv A outer s H vs Q E hr h => ?_)
  · obtain ⟨x, rules, rfl, _⟩ := h
    rfl
  · obtain ⟨x, rules, rfl, hx, h8, q⟩ := h
    refine ⟨_, (pss_cons 
        (ps_set (i := 1) scMixturesTaken.nd rfl (.inr rfl) (pe_call (ok_mixtures_of T) (hr.mono (by decide)) (by rfl) T.oMixturesOf.g T.oMixturesOf.F.kp T.oMixturesOf.b .nil pass0 (pa_cons (pv 0) pa_nil)))
      (pss_one 
        (ps_ret (pe_lc (own := [("i", 2)]) (g := gName 2) (tt := tYes) rfl scMixturesTaken.nd (pi_list (pe_call (ok_numbers_taken T) (hr.mono (by decide)) (by rfl) T.oNumbersTaken.g T.oNumbersTaken.F.kp T.oNumbersTaken.b .nil pass0 (pa_cons (pv 0) pa_nil))) (blkOk_by (N := NMixturesTaken) (sc := defScope sMixturesTaken) (by decide +kernel)) (fun _ _ _ _ _ => pg_name (i := 2) scMixturesTaken.nd rfl (Or.inl rfl)) (fun _ _ _ _ _ => pts_nil) (fun _ _ _ _ _ => (pe_ix (ixl K) (pv 1) (pv 2) (fun _ _ => rfl))))))), ?_⟩
    refine ⟨_, rfl, _, rules, rfl, hx, h8, fun H1 pm ms s1 npm hpm hms => ?_⟩
    refine ⟨_, rfl, _, rules, rfl, Dp_mono s1 _ _ hx, h8, fun H2 pn ns s2 npn hpn hns => ?_⟩
    have ens := eInts_is hns
    subst ens
    have hM : Dp K H2 (.ref pm) (.list ((mixturesOf rules).map eMix)) := .lst (SqL.of (s2 _ _ hpm)) (DpAll_mono s2 _ _ hms)
    have ln := nums_len rules
    have lm2 := mixturesOf_len rules
    refine ⟨pn, rfl, ⟨_, SqL.of hpn⟩, fun D hD => lc_map (ds := (mixturesTaken rules).map eMix) (SqL.of hpn) (by unfold mixturesTaken; rw [List.length_map, List.length_map, List.length_map]) (by unfold mixturesTaken; rw [List.length_map, List.length_map]; exact smallS (by omega)) hD (fun k x d H3 acc hk hd s3 hA3 Q' kk => ?_) (fun H4 rs s4 h4 hrs => q H4 D rs (s1.trans (s2.trans s4)) ((s1.trans s2).free hD) h4 hrs)⟩
    obtain ⟨i, hi, rfl⟩ := map_at hk
    unfold mixturesTaken at hd
    rw [List.map_map] at hd
    obtain ⟨i', hi', rfl⟩ := map_at hd
    rw [hi] at hi'
    cases hi'
    obtain ⟨p, ys, y, e, hSy, hy, hdy⟩ := mixes_at (Dp_mono s3 _ _ hM) (k := i) (nums_lt (List.mem_of_getElem? hi))
    cases e
    exact ⟨_, rfl, _, rfl, pm, ys, _, _, rfl, rfl, hSy, hy, gT (tup_mix _) hA3 hdy kk⟩
/-! ### brought -/
def spBrought (K : PySem.W.Frag) : Sp := fun vs H Q _ => ∃ (x y : V) (rules : List Kp340.Rule) (mix : Mix) (n s : Nat), vs = [x, y, .int (s : Int)] ∧ Dp K H x (.list (rules.map eRule)) ∧ Dp K H y (eMix mix) ∧ (∀ r ∈ rules, RuleOk n r) ∧ rules.length ≤ 8 ∧ s < n ∧ ∀ H' v, Same H H' → Dp K H' v (eF (brought rules mix s)) → Q v H'
theorem brought_succ {rules : List Kp340.Rule} {k s : Nat} {mix : Mix} {r : Kp340.Rule} (h : rules[k]? = some r) : brought (rules.take (k + 1)) mix s = if r.left = mix then plusP (brought (rules.take k) mix s) (timesP r.speed (Kp341.delta r s, 1)) else brought (rules.take k) mix s := by
  unfold brought
  rw [take_at h, List.foldl_append]
  rfl
theorem brought_small {rules : List Kp340.Rule} {n s k : Nat} {mix : Mix} (h : ∀ r ∈ rules, RuleOk n r) (h8 : rules.length ≤ 8) : Ok (brought (rules.take k) mix s) ∧ Small 91 (brought (rules.take k) mix s) := by
  have ht : ∀ r ∈ rules.take k, RuleOk n r := fun r hr => h r (List.mem_of_mem_take hr)
  obtain ⟨d, hd, hdn, hz⟩ := brought_B ht s
  obtain ⟨z, hzn, e⟩ := hz mix
  have hl : (rules.take k).length ≤ 8 := by rw [List.length_take]; omega
  rw [e]
  exact ⟨fr_ok z d hd, fr_small hd (lt_mono hzn (by omega)) (lt_mono hdn (by omega))⟩
theorem delta_is (r : Kp340.Rule) (s : Nat) : Kp341.delta r s = ((r.right.getD s 0 : Nat) : Int) - ((r.left.getD s 0 : Nat) : Int) := rfl
theorem speed_small {n : Nat} {r : Kp340.Rule} (h : RuleOk n r) : Small 10 r.speed := by
  have h1 := h.lo
  have h2 := h.ok.1
  have : (2 : Nat) ^ 10 = 1024 := by decide
  exact ⟨by omega, by omega⟩
theorem delta_small {n : Nat} {r : Kp340.Rule} (h : RuleOk n r) (s : Nat) : Small 2 (Kp341.delta r s, 1) := by
  have q : ∀ l : List Nat, (∀ x ∈ l, x ≤ 3) → l.getD s 0 ≤ 3 := fun l hl => by
    by_cases hc : s < l.length
    · exact hl _ (mem_getD hc)
    · rw [getD_out (by omega)]; omega
  have q1 := q _ h.small.1
  have q2 := q _ h.small.2
  have : (2 : Nat) ^ 2 = 4 := by decide
  refine ⟨?_, by show 1 < 2 ^ 2; decide⟩
  show (Kp341.delta r s).natAbs < 2 ^ 2
  rw [delta_is]
  omega
theorem ok_brought (T : Tx K mg) : FnOk P w K mg base CX0 4 T.fBrought T.dBrought ["rules", "mixture", "s"] (spBrought K) := by
  refine T.oBrought.F.ok scBrought (fun vs H Q E h => ?_) (fun cdv A outer s H vs Q E hr h => ?_)
  · obtain ⟨x, y, rules, mix, n, s, rfl, _⟩ := h
    rfl
  · obtain ⟨x, y, rules, mix, n, sb, rfl, hx, hy, hru, h8, hsn, q⟩ := h
    obtain ⟨a, xs, rfl, hS, hA⟩ := Dp_list hx
    have len : xs.length = rules.length := by rw [DpAll_len hA, List.length_map]
    refine ⟨_, (pss_cons 
        (ps_set (i := 3) scBrought.nd rfl (.inl rfl) (pe_gr T.gZERO))
      (pss_cons 
        (ps_for PassesOwn.never rfl (pi_list (pv 0)) (pg_name (i := 4) scBrought.nd rfl (.inl rfl))
          (pss_one 
            (ps_if (pt_cmpR (eqd K (hu64 hr)) (pe_ix (ixt K) (pv 4) pe_int (fun _ _ => rfl)) (pv 1) (nomark _))
              (pss_cons 
                (ps_set (i := 5) scBrought.nd rfl (.inl rfl) (pe_op op_sub (pe_ix (ixt K) (pe_ix (ixt K) (pv 4) pe_int (fun _ _ => rfl)) (pv 2) (fun _ _ => rfl)) (pe_ix (ixt K) (pe_ix (ixt K) (pv 4) pe_int (fun _ _ => rfl)) (pv 2) (fun _ _ => rfl))))
              (pss_one 
                (ps_set (i := 3) scBrought.nd rfl (.inl rfl) (pe_call (ok_plus T) (hr.mono (by decide)) (by rfl) T.oPlus.g T.oPlus.F.kp T.oPlus.b .nil pass0 (pa_cons (pv 3) (pa_cons (pe_call (ok_times T) (hr.mono (by decide)) (by rfl) T.oTimes.g T.oTimes.F.kp T.oTimes.b .nil pass0 (pa_cons (pe_ix (ixt K) (pv 4) pe_int (fun _ _ => rfl)) (pa_cons (pe_tup (pa_cons (pv 5) (pa_cons pe_int pa_nil))) pa_nil))) pa_nil)))))) pss_nil)))
      (pss_one 
        (ps_ret (pv 3))))), ?_⟩
    refine ⟨_, rfl, a, rfl, ⟨_, hS⟩, for_list (K := K) (a := a) (xs := xs) (fun k σ H' => ∃ v3 y4 y5, σ = [some (.ref a), some y, some (.int (sb : Int)), some v3, y4, y5] ∧ Same H H' ∧ Dp K H' v3 (eF (brought (rules.take k) mix sb)))
      ⟨_, none, none, rfl, Same.refl _, zeroD T _⟩ (fun k σ H' _ ⟨_, _, _, _, s5, _⟩ => Same.seq s5 hS) ?_ ?_⟩
    · rintro k v σ H' hk ⟨v3, y4, y5, rfl, sH, h3⟩
      obtain ⟨e, he, hde⟩ := DpAll_at (DpAll_mono sH _ _ hA) hk
      obtain ⟨r, hr, rfl⟩ := map_at he
      have ro := hru r (List.mem_of_getElem? hr)
      have es := brought_succ (mix := mix) (s := sb) hr
      obtain ⟨b1, b2⟩ := brought_small (s := sb) (k := k) (mix := mix) hru h8
      generalize brought (rules.take k) mix sb = tot at *
      obtain ⟨p, vl, vr, vsp, rfl, hT, hl, hrt, hsp⟩ := Dp_rule hde
      refine ⟨_, rfl, p, _, 0, _, rfl, rfl, hT, t0, _, rfl, eMix _, eMix _, hl, Dp_mono sH _ _ hy, shaped_mix _, shaped_mix _, _, rfl, ite2 (fun hc => ?_) (fun hc => ?_)⟩
      · rw [eqv_mix] at hc
        rw [if_pos (of_decide_eq_true hc)] at es
        -- gain
        obtain ⟨pr, zr, e1, hSr, hrs⟩ := mix_at hrt (s := sb) (by rw [ro.right]; exact hsn)
        obtain ⟨pl, zl, e2, hSl, hls⟩ := mix_at hl (s := sb) (by rw [ro.left]; exact hsn)
        refine ⟨_, rfl, p, _, 1, _, rfl, rfl, hT, t1, _, rfl, pr, zr, _, _, e1, rfl, hSr, hrs, _, rfl, p, _, 0, _, rfl, rfl, hT, t0, _, rfl, pl, zl, _, _, e2, rfl, hSl, hls, _, _, rfl, rfl, ?_⟩
        -- total = plus(total, times(rule[2], (gain, 1)))
        refine ⟨_, rfl, _, rfl, p, _, 2, _, rfl, rfl, hT, t2, _, rfl, by show 2 ≤ sizeLine; decide, fun tg ntg => ?_⟩
        have s2 : Same H' (upd H' tg (.tup [.int (Kp341.delta r sb), .int 1])) := same_upd ntg
        have od := okI (Kp341.delta r sb)
        refine ⟨vsp, .ref tg, r.speed, (Kp341.delta r sb, 1), rfl, Dp_mono s2 _ _ hsp, F_of (x := (Kp341.delta r sb, 1)) upd_same, ro.ok, od, (speed_small ro).mono (by decide), (delta_small ro sb).mono (by decide), trivial, fun H4 p4 s4 np4 hp4 => ?_⟩
        have om := mul_ok ro.ok od
        have sm := mul_small ro.ok od (speed_small ro) (delta_small ro sb)
        refine ⟨v3, .ref p4, tot, _, rfl, Dp_mono (s2.trans s4) _ _ h3, F_of hp4, b1, om, b2.mono (by decide), sm.mono (by decide), trivial, fun H5 p5 s5 np5 hp5 => ?_⟩
        refine ⟨_, _, _, rfl, sH.trans (s2.trans (s4.trans s5)), ?_⟩
        rw [es]
        exact F_of hp5
      · rw [eqv_mix] at hc
        rw [if_neg (fun z => hc (decide_eq_true z))] at es
        refine ⟨v3, _, _, rfl, sH, ?_⟩
        rw [es]
        exact h3
    · rintro σ H' ⟨v3, y4, y5, rfl, sH, h3⟩
      rw [len, List.take_length] at h3
      exact ⟨_, rfl, q H' v3 sH h3⟩
/-! ### more_by -/
def spMore (K : PySem.W.Frag) : Sp := fun vs H Q _ => ∃ (x y : V) (a b : Mix) (s : Nat), vs = [x, y, .int (s : Int)] ∧ Dp K H x (eMix a) ∧ Dp K H y (eMix b) ∧ a.length = b.length ∧ s < a.length ∧ a.length ≤ 1000 ∧ Q (.int (moreBy a b s)) H
theorem ok_more_by (T : Tx K mg) : FnOk P w K mg base CX0 1 T.fMoreBy T.dMoreBy ["first", "other", "s"] (spMore K) := by
  refine T.oMoreBy.F.ok scMoreBy (fun vs H Q E h => ?_) (fun cdv A outer s H vs Q E hr h => ?_)
  · obtain ⟨x, y, a, b, s, rfl, _⟩ := h
    rfl
  · obtain ⟨x, y, a, b, sb, rfl, hx, hy, hab, hs, hl, q⟩ := h
    obtain ⟨px, xs, rfl, hSx, hAx⟩ := Dp_tuple hx
    have len : xs.length = a.length := by rw [DpAll_len hAx, List.length_map]
    refine ⟨_, (pss_cons 
        (ps_for PassesOwn.never rfl (pi_range1 (by rfl) T.range (pa_cons (pe_callB (clen K) (by rfl) T.len PySem.boot_len (pa_cons (pv 0) pa_nil)) pa_nil)) (pg_name (i := 3) scMoreBy.nd rfl (.inl rfl))
          (pss_one 
            (ps_if (PW.pt (pw_and (pt_cmpR op_ne (pv 3) (pv 2) (nomark _)) (pw_and1 (pt_cmpR op_ne (pe_ix (ixt K) (pv 0) (pv 3) (fun _ _ => rfl)) (pe_ix (ixt K) (pv 1) (pv 3) (fun _ _ => rfl)) (nomark _)))))
              (pss_one 
                (ps_ret pe_int)) pss_nil)))
      (pss_one 
        (ps_ret (pe_callB (call_max2 rfl) (by rfl) T.max PyProof.Rows.boot_max (pa_cons (pe_op op_sub (pe_ix (ixt K) (pv 0) (pv 2) (fun _ _ => rfl)) (pe_ix (ixt K) (pv 1) (pv 2) (fun _ _ => rfl))) (pa_cons pe_int pa_nil)))))), ?_⟩
    refine ⟨_, rfl, px, xs, rfl, .inr hSx, _, rfl, (small62 (by omega)).1, (small62 (by omega)).2, for_range (n := xs.length) (fun i σ H' => ∃ y3, σ = [some (.ref px), some y, some (.int (sb : Int)), y3] ∧ H' = H ∧ ∀ k, k < i → k ≠ sb → a.getD k 0 = b.getD k 0) ⟨none, rfl, rfl, fun k hk => absurd hk (Nat.not_lt_zero k)⟩ ?_ ?_⟩
    · rintro i σ H' hi ⟨y3, rfl, rfl, hn⟩
      rw [Int.zero_add]
      obtain ⟨p1, z1, e1, hS1, ha1⟩ := mix_at hx (s := i) (by omega)
      cases e1
      obtain ⟨p2, z2, rfl, hS2, ha2⟩ := mix_at hy (s := i) (by omega)
      refine ⟨_, rfl, _, rfl, rfl, _, rfl, ite2 (fun hc => ?_) (fun hc => ?_)⟩
      · have hne : i ≠ sb := fun z => by
          subst z
          exact absurd hc (by simp)
        refine ⟨_, rfl, _, rfl, px, z1, _, _, rfl, rfl, hS1, ha1, _, rfl, _, rfl, p2, z2, _, _, rfl, rfl, hS2, ha2, rfl, _, rfl, ite2 (fun hc2 => ?_) (fun hc2 => ?_)⟩
        · have hd : a.getD i 0 ≠ b.getD i 0 := fun z => by
            rw [z] at hc2
            exact absurd hc2 (by simp)
          have e : moreBy a b sb = 0 := by
            unfold moreBy
            rw [if_pos]
            exact List.any_eq_true.mpr ⟨i, List.mem_range.mpr (by omega), by rw [bne_iff_ne.mpr hne, bne_iff_ne.mpr hd]; rfl⟩
          rw [e] at q
          exact q
        · have hd : a.getD i 0 = b.getD i 0 := by
            rcases Decidable.em (a.getD i 0 = b.getD i 0) with z | z
            · exact z
            · exact absurd (by rw [decide_eq_false (fun y => z (by have := V.int.inj y; omega))]; rfl) hc2
          refine ⟨_, rfl, rfl, fun k hk hks => ?_⟩
          by_cases z : k = i
          · subst z; exact hd
          · exact hn k (by omega) hks
      · have he : i = sb := by
          rcases Decidable.em (i = sb) with z | z
          · exact z
          · exact absurd (by rw [decide_eq_false (fun y => z (by have := V.int.inj y; omega))]; rfl) hc
        refine ite2 (fun z => absurd z (by decide)) (fun _ => ?_)
        refine ⟨_, rfl, rfl, fun k hk hks => ?_⟩
        by_cases z : k = i
        · exact absurd (z.trans he) hks
        · exact hn k (by omega) hks
    · rintro σ H' ⟨y3, rfl, rfl, hn⟩
      obtain ⟨p1, z1, e1, hS1, ha1⟩ := mix_at hx (s := sb) hs
      cases e1
      obtain ⟨p2, z2, rfl, hS2, ha2⟩ := mix_at hy (s := sb) (by omega)
      have e : moreBy a b sb = if (0 : Int) > ((a.getD sb 0 : Nat) : Int) - ((b.getD sb 0 : Nat) : Int) then 0 else ((a.getD sb 0 : Nat) : Int) - ((b.getD sb 0 : Nat) : Int) := by
        unfold moreBy
        rw [if_neg]
        · split <;> omega
        · intro z
          obtain ⟨k, hk, hk2⟩ := List.any_eq_true.mp z
          rw [Bool.and_eq_true, bne_iff_ne, bne_iff_ne] at hk2
          exact hk2.2 (hn k (by rw [len]; exact List.mem_range.mp hk) hk2.1)
      refine ⟨_, rfl, _, rfl, px, z1, _, _, rfl, rfl, hS1, ha1, _, rfl, _, rfl, p2, z2, _, _, rfl, rfl, hS2, ha2, _, _, rfl, rfl, _, _, rfl, ?_⟩
      rw [e] at q
      exact q
end
end Sl

/-! relations_of, choices_of, ratio_of, level_of. -/
namespace Sl
open PySem PySem.Spec PyProof.Rows L2
open Kp340 (Fr Mix Net)
section
variable {P : Program} {w : World} {K : PySem.W.Frag} {mg : Str → Option Value} {base : Heap}
theorem taken_small (m : Net) (h : NetOk m) : (mixturesTaken m.rules).length ≤ 16 := by
  have h1 := nums_len m.rules
  have h2 := mixturesOf_len m.rules
  have h3 := h.few
  unfold mixturesTaken
  rw [List.length_map]
  omega
/-! ### relations_of -/
def spRelOf (K : PySem.W.Frag) : Sp := fun vs H Q _ => ∃ (x : V) (m : Net), vs = [x, .int (m.n : Int)] ∧ Dp K H x (.list (m.rules.map eRule)) ∧ NetOk m ∧ GivesL K H ((relationsOf m.rules m.n).map eRow) Q
def rowsK (rules : List Kp340.Rule) (k : Nat) : List Row := (List.range k).map fun s => (mixturesTaken rules).map fun x => brought rules x s
theorem rowsK_succ (rules : List Kp340.Rule) (k : Nat) : rowsK rules (k + 1) = rowsK rules k ++ [(mixturesTaken rules).map fun x => brought rules x k] := by
  unfold rowsK
  rw [List.range_succ, List.map_append]
  rfl
theorem ok_relations_of (T : Tx K mg) : FnOk P w K mg base CX0 6 T.fRelationsOf T.dRelationsOf ["rules", "substances"] (spRelOf K) := by
  refine T.oRelationsOf.F.ok scRelationsOf (fun vs H Q E h => ?_) (fun cdv A outer s H vs Q E hr h => ?_)
  · obtain ⟨x, m, rfl, _⟩ := h
    rfl
  · obtain ⟨x, m, rfl, hx, hm, q⟩ := h
    have h8 := hm.few
    have hn := hm.n
    have ltk := taken_small m hm
    refine ⟨_, (pss_cons 
        (ps_set (i := 2) scRelationsOf.nd rfl (.inl rfl) (pe_call (ok_mixtures_taken T) (hr.mono (by decide)) (by rfl) T.oMixturesTaken.g T.oMixturesTaken.F.kp T.oMixturesTaken.b .nil pass0 (pa_cons (pv 0) pa_nil)))
      (pss_cons 
        (ps_set (i := 3) scRelationsOf.nd rfl (.inl rfl) (pe_lst pa_nil))
      (pss_cons 
        (ps_for PassesOwn.never rfl (pi_range1 (by rfl) T.range (pa_cons (pv 1) pa_nil)) (pg_name (i := 4) scRelationsOf.nd rfl (.inr rfl))
          (pss_one 
            (ps_expr (pe_bm PySem.F.plainAttrs_list PySem.F.slot_list_append PySem.F.type_list_append mt_append (pv 3) (pa_cons (pe_lc (own := [("mixture", 5)]) (g := gName 5) (tt := tYes) rfl scRelationsOf.nd (pi_list (pv 2)) (blkOk_by (N := NRelationsOf) (sc := defScope sRelationsOf) (by decide +kernel)) (fun _ _ _ _ _ => pg_name (i := 5) scRelationsOf.nd rfl (Or.inl rfl)) (fun _ _ _ _ _ => pts_nil) (fun _ _ _ _ _ => (pe_call (ok_brought T) (hr.mono (by decide)) (by rfl) T.oBrought.g T.oBrought.F.kp T.oBrought.b .nil pass0 (pa_cons (pv 0) (pa_cons (pv 5) (pa_cons (pv 4) pa_nil)))))) pa_nil)))))
      (pss_one 
        (ps_ret (pe_call (ok_relations_among T) (hr.mono (by decide)) (by rfl) T.oRelationsAmong.g T.oRelationsAmong.F.kp T.oRelationsAmong.b .nil pass0 (pa_cons (pv 3) (pa_cons (pe_callB (clen K) (by rfl) T.len PySem.boot_len (pa_cons (pv 2) pa_nil)) pa_nil)))))))), ?_⟩
    refine ⟨_, rfl, _, m.rules, rfl, hx, by omega, fun H1 pt ts s1 npt hpt hts => ?_⟩
    have lts : ts.length = (mixturesTaken m.rules).length := by rw [DpAll_len hts, List.length_map]
    refine ⟨Nat.zero_le _, fun pr npr => ?_⟩
    have s2 : Same H1 (upd H1 pr (.lst [])) := same_upd npr
    have npr0 : H pr = none := s1.free npr
    have ntr : pt ≠ pr := ne_of_none hpt npr
    refine ⟨_, rfl, _, rfl, (small62 (by omega)).1, (small62 (by omega)).2, for_range (n := m.n) (fun k σ H' => ∃ y4 vs, σ = [some x, some (.int (m.n : Int)), some (.ref pt), some (.ref pr), y4, none] ∧ Same H H' ∧ H' pt = some (.lst ts) ∧ DpAll K H' ts ((mixturesTaken m.rules).map eMix) ∧ H' pr = some (.lst vs) ∧ DpAll K (hide H' pr) vs ((rowsK m.rules k).map eRow))
      ⟨none, [], rfl, s1.trans s2, s2 _ _ hpt, DpAll_mono s2 _ _ hts, upd_same, .nil⟩ ?_ ?_⟩
    · rintro k σ H' hk ⟨y4, vs, rfl, sH, hpt', hts', hpr', hvs⟩
      rw [Int.zero_add]
      refine ⟨_, rfl, .inl ⟨rfl, _, SqL.of hpr'⟩, ?_⟩
      refine ⟨_, rfl, pt, rfl, ⟨_, SqL.of hpt'⟩, fun D hD => lc_map (ds := ((mixturesTaken m.rules).map fun x => brought m.rules x k).map eF) (SqL.of hpt') (by rw [lts, List.length_map, List.length_map]) (by rw [List.length_map, List.length_map]; exact smallS (by omega)) hD (fun j v d H3 acc hj hd s3 hA3 Q' kk => ?_) (fun H4 rs s4 h4 hrs => ?_)⟩
      · obtain ⟨e, he, hde⟩ := DpAll_at (DpAll_mono s3 _ _ hts') hj
        obtain ⟨mx, hmx, rfl⟩ := map_at he
        rw [List.map_map] at hd
        obtain ⟨mx', hmx', rfl⟩ := map_at hd
        rw [hmx] at hmx'
        cases hmx'
        exact ⟨_, rfl, _, rfl, _, rfl, x, v, m.rules, mx, m.n, k, rfl, Dp_mono (sH.trans s3) _ _ hx, hde, hm.each, h8, hk, fun H5 y s5 hy => kk H5 y s5 (Dp_keepF (keepT_hide (notup_lst (s5 _ _ hA3))) hy)⟩
      · have nDr : D ≠ pr := fun e => by
          rw [e, hpr'] at hD
          cases hD
        have lvs : vs.length = k := by
          rw [DpAll_len hvs, List.length_map]
          unfold rowsK
          rw [List.length_map, List.length_range]
        have hpr4 := s4 _ _ hpr'
        have k4 : KeepT H4 (upd H4 pr (.lst (vs ++ [.ref D]))) := keepT_upd (notup_lst hpr4)
        refine ⟨pr, vs, _, rfl, rfl, hpr4, smallS (by omega), ?_⟩
        refine ⟨_, vs ++ [.ref D], rfl, same_mut (sH.trans s4) npr0, by rw [upd_ne ntr]; exact s4 _ _ hpt', DpAll_tup k4 _ _ (tup_mixes _) (DpAll_mono s4 _ _ hts'), upd_same, ?_⟩
        rw [hide_upd, rowsK_succ, List.map_append]
        refine DpAll_app (DpAll_mono (hide_same s4 pr) _ _ hvs) (DpAll_one ?_)
        exact .lst (SqL.of (by rw [hide_ne nDr]; exact h4)) (DpAll_keepF (keepT_hide (notup_lst hpr4)) hrs)
    · rintro σ H' ⟨y4, vs, rfl, sH, hpt', hts', hpr', hvs⟩
      have e : rowsK m.rules m.n = broughtRows m.rules m.n := rfl
      rw [e] at hvs
      have hl4 : (broughtRows m.rules m.n).length = m.n := by
        unfold broughtRows
        rw [List.length_map, List.length_range]
      refine ⟨_, rfl, _, rfl, pt, ts, rfl, .inl (SqL.of hpt'), .ref pr, broughtRows m.rules m.n, ts.length, rfl, .lst (SqL.of hpr') (DpAll_mono (hide_sub _ _) _ _ hvs), ?_, ?_, by omega, by omega, ?_⟩
      · rw [lts]
        exact rows_good (speeds_ok hm) m.n
      · rw [lts]
        refine fine_of (n := 91) (rows_good (speeds_ok hm) m.n) (rows_B hm.each h8 m.n) ?_
        rw [hl4]
        exact Nat.le_trans (bits_mono 91 hn.2) (by decide)
      · intro H5 p5 xs5 s5 n5 h5 hx5
        refine q H5 p5 xs5 (sH.trans s5) (sH.free n5) h5 ?_
        rw [lts] at hx5
        exact hx5
/-! ### choices_of -/
def spChoices (K : PySem.W.Frag) : Sp := fun vs H Q _ => ∃ (x : V) (m : Net), vs = [x, .int (m.n : Int)] ∧ Dp K H x (.list (m.rules.map eRule)) ∧ NetOk m ∧ GivesL K H ((choicesOf m.rules m.n).map eRow) Q
theorem rel_rows {m : Net} (h : NetOk m) : (∀ r ∈ relationsOf m.rules m.n, r.length = (mixturesTaken m.rules).length ∧ SmallR 4000 r ∧ ∃ y ∈ r, y ≠ (0, 1)) ∧ (relationsOf m.rules m.n).length ≤ 4 := by
  have g := rows_good (speeds_ok h) m.n
  have hl4 : (broughtRows m.rules m.n).length = m.n := by
    unfold broughtRows
    rw [List.length_map, List.length_range]
  refine ⟨fun r hr => ?_, ?_⟩
  · obtain ⟨b1, b2⟩ := relations_B h r hr
    refine ⟨b1.1, rowB_small b1 b2 4000 (by decide), ?_⟩
    unfold relationsOf at hr
    rw [among_is g] at hr
    obtain ⟨x, hx, rfl⟩ := List.mem_map.mp hr
    obtain ⟨c1, c2, c3, c4⟩ := (plain_inv g).1 x hx
    refine ⟨(1, 1), ?_, by decide⟩
    rw [← c4]
    exact mem_getD (by rw [c2.1]; exact c1)
  · unfold relationsOf
    rw [among_is g, List.length_map]
    have := (plain_B g (rows_B h.each h.few m.n)).2
    have := h.n
    omega
theorem ok_choices_of (T : Tx K mg) : FnOk P w K mg base CX0 7 T.fChoicesOf T.dChoicesOf ["rules", "substances"] (spChoices K) := by
  refine T.oChoicesOf.F.ok scChoicesOf (fun vs H Q E h => ?_) (fun cdv A outer s H vs Q E hr h => ?_)
  · obtain ⟨x, m, rfl, _⟩ := h
    rfl
  · obtain ⟨x, m, rfl, hx, hm, q⟩ := h
    have h8 := hm.few
    have ltk := taken_small m hm
    obtain ⟨r1, r2⟩ := rel_rows hm
    refine ⟨_, (pss_cons 
        (ps_set (i := 2) scChoicesOf.nd rfl (.inl rfl) (pe_call (ok_relations_of T) (hr.mono (by decide)) (by rfl) T.oRelationsOf.g T.oRelationsOf.F.kp T.oRelationsOf.b .nil pass0 (pa_cons (pv 0) (pa_cons (pv 1) pa_nil))))
      (pss_one 
        (ps_ret (pe_call (ok_weights_that_could_be T) (hr.mono (by decide)) (by rfl) T.oWeightsThatCouldBe.g T.oWeightsThatCouldBe.F.kp T.oWeightsThatCouldBe.b .nil pass0 (pa_cons (pv 2) (pa_cons (pe_callB (clen K) (by rfl) T.len PySem.boot_len (pa_cons (pe_call (ok_mixtures_taken T) (hr.mono (by decide)) (by rfl) T.oMixturesTaken.g T.oMixturesTaken.F.kp T.oMixturesTaken.b .nil pass0 (pa_cons (pv 0) pa_nil)) pa_nil)) pa_nil)))))), ?_⟩
    refine ⟨_, rfl, _, rfl, x, m, rfl, hx, hm, fun H1 pr rs s1 npr hpr hrs => ?_⟩
    refine ⟨_, rfl, _, rfl, x, m.rules, rfl, Dp_mono s1 _ _ hx, by omega, fun H2 pt ts s2 npt hpt hts => ?_⟩
    have lts : ts.length = (mixturesTaken m.rules).length := by rw [DpAll_len hts, List.length_map]
    refine ⟨pt, ts, rfl, .inl (SqL.of hpt), .ref pr, relationsOf m.rules m.n, ts.length, rfl, .lst (SqL.of (s2 _ _ hpr)) (DpAll_mono s2 _ _ hrs), ?_, by omega, by omega, ?_⟩
    · rw [lts]
      exact r1
    · intro H5 p5 xs5 s5 n5 h5 hx5
      refine q H5 p5 xs5 (s1.trans (s2.trans s5)) ((s1.trans s2).free n5) h5 ?_
      rw [lts] at hx5
      exact hx5
/-! ### ratio_of -/
def spRatioOf (K : PySem.W.Frag) : Sp := fun vs H Q _ => ∃ (x : V) (m : Net) (i j : Nat), vs = [x, .int (m.n : Int), .int (i : Int), .int (j : Int)] ∧ Dp K H x (.list (m.rules.map eRule)) ∧ NetOk m ∧ i ∈ numbersTaken m.rules ∧ j ∈ numbersTaken m.rules ∧ ∀ H' v, Same H H' → DpO K H' v (ratioOf m.rules m.n i j) → Q v H'
theorem index_facts {l : List Nat} {i : Nat} (hi : i ∈ l) : (l.map fun (k : Nat) => V.int (k : Int))[l.findIdx fun k => k == i]? = some (.int (i : Int)) ∧ eqV (.int (i : Int)) (.int (i : Int)) = true ∧ ∀ (k : Nat) (z' : V), k < (l.findIdx fun k => k == i) → (l.map fun (k : Nat) => V.int (k : Int))[k]? = some z' → eqV z' (.int (i : Int)) = false := by
  obtain ⟨h1, h2⟩ := idx_mem hi
  refine ⟨?_, by simp [eqV], fun k z' hk hz => ?_⟩
  · rw [List.getElem?_map, get_at 0 h1, h2 0]
    rfl
  · rw [List.getElem?_map] at hz
    have hkl : k < l.length := by omega
    rw [get_at 0 hkl] at hz
    have e := (Option.some.inj hz).symm
    subst e
    have := List.not_of_lt_findIdx hk
    have hne : l[k] ≠ i := by simpa using this
    rw [getD_of hkl]
    show eqV (.int ((l[k] : Nat) : Int)) (.int (i : Int)) = false
    simp [eqV]
    omega
theorem choice_rows {m : Net} (h : NetOk m) : ∀ r ∈ choicesOf m.rules m.n, r.length = (mixturesTaken m.rules).length ∧ SmallR 4000 r := by
  intro r hr
  have g := rows_good (speeds_ok h) m.n
  have hg : Good (mixturesTaken m.rules).length r := by
    unfold choicesOf relationsOf at hr
    rw [among_is g, could_is g] at hr
    exact free_good g r hr
  refine ⟨hg.1, fun x hx => ⟨hg.2 x hx, ?_⟩⟩
  unfold choicesOf relationsOf at hr
  rw [among_is g, could_is g] at hr
  unfold Kp342.free at hr
  dsimp only at hr
  obtain ⟨c, _, rfl⟩ := List.mem_map.mp hr
  obtain ⟨k, _, rfl⟩ := List.mem_map.mp hx
  have hl4 : (broughtRows m.rules m.n).length = m.n := by
    unfold broughtRows
    rw [List.length_map, List.length_range]
  split
  · exact small11.mono (by decide)
  · split
    · rename_i y hy
      have b := ((plain_B g (rows_B h.each h.few m.n)).1 y (List.mem_of_find?_eq_some hy)).mono (Nat.le_trans (bits_mono 91 (show (broughtRows m.rules m.n).length ≤ 4 by rw [hl4]; exact h.n.2)) (show bits 91 4 ≤ 4000 by decide))
      refine Small.neg ?_
      by_cases hc : c < y.2.length
      · exact b.small _ (mem_getD hc)
      · rw [getD_out (by omega)]
        exact small01.mono (by decide)
    · exact small01.mono (by decide)
theorem ok_ratio_of (T : Tx K mg) : FnOk P w K mg base CX0 8 T.fRatioOf T.dRatioOf ["rules", "substances", "i", "j"] (spRatioOf K) := by
  refine T.oRatioOf.F.ok scRatioOf (fun vs H Q E h => ?_) (fun cdv A outer s H vs Q E hr h => ?_)
  · obtain ⟨x, m, i, j, rfl, _⟩ := h
    rfl
  · obtain ⟨x, m, i, j, rfl, hx, hm, hi, hj, q⟩ := h
    have h8 := hm.few
    refine ⟨_, (pss_cons 
        (ps_set (i := 4) scRatioOf.nd rfl (.inl rfl) (pe_call (ok_numbers_taken T) (hr.mono (by decide)) (by rfl) T.oNumbersTaken.g T.oNumbersTaken.F.kp T.oNumbersTaken.b .nil pass0 (pa_cons (pv 0) pa_nil)))
      (pss_cons 
        (ps_set (i := 5) scRatioOf.nd rfl (.inl rfl) (pe_call (ok_choices_of T) (hr.mono (by decide)) (by rfl) T.oChoicesOf.g T.oChoicesOf.F.kp T.oChoicesOf.b .nil pass0 (pa_cons (pv 0) (pa_cons (pv 1) pa_nil))))
      (pss_one 
        (ps_ret (pe_call (ok_ratio_among T) (hr.mono (by decide)) (by rfl) T.oRatioAmong.g T.oRatioAmong.F.kp T.oRatioAmong.b .nil pass0 (pa_cons (pv 5) (pa_cons (pe_bm PySem.F.plainAttrs_list PySem.F.slot_list_index PySem.F.type_list_index (mtidx K) (pv 4) (pa_cons (pv 2) pa_nil)) (pa_cons (pe_bm PySem.F.plainAttrs_list PySem.F.slot_list_index PySem.F.type_list_index (mtidx K) (pv 4) (pa_cons (pv 3) pa_nil)) pa_nil)))))))), ?_⟩
    refine ⟨_, rfl, x, m.rules, rfl, hx, by omega, fun H1 pn ns s1 npn hpn hns => ?_⟩
    have ens := eInts_is hns
    subst ens
    refine ⟨_, rfl, _, rfl, x, m, rfl, Dp_mono s1 _ _ hx, hm, fun H2 pc cs s2 npc hpc hcs => ?_⟩
    have hS2 : SqL K H2 pn ((numbersTaken m.rules).map fun (k : Nat) => V.int (k : Int)) := SqL.of (s2 _ _ hpn)
    have hlt : ∀ {k : Nat}, k ∈ numbersTaken m.rules → ((numbersTaken m.rules).findIdx fun y => y == k) < (mixturesTaken m.rules).length := fun {k} hk => by
      unfold mixturesTaken
      rw [List.length_map]
      exact (idx_mem hk).1
    obtain ⟨i1, i2, i3⟩ := index_facts hi
    obtain ⟨j1, j2, j3⟩ := index_facts hj
    refine ⟨_, rfl, _, rfl, .inl ⟨rfl, _, hS2⟩, _, rfl, pn, _, _, _, _, rfl, rfl, hS2, rfl, flat_nats _, i1, i2, i3, ?_⟩
    refine ⟨_, rfl, .inl ⟨rfl, _, hS2⟩, _, rfl, pn, _, _, _, _, rfl, rfl, hS2, rfl, flat_nats _, j1, j2, j3, ?_⟩
    exact ⟨.ref pc, choicesOf m.rules m.n, (mixturesTaken m.rules).length, _, _, rfl, .lst (SqL.of hpc) hcs, choice_rows hm, hlt hi, hlt hj, fun H5 v s5 hv => q H5 v (s1.trans (s2.trans s5)) hv⟩
/-! ### level_of -/
/-- how much more, and a fraction; or None -/
def DpL (K : PySem.W.Frag) (H : Hp) (v : V) : Option (Int × Fr) → Prop
  | none => v = .non
  | some x => Dp K H v (.tuple [.int x.1, eF x.2])
def spLevel (K : PySem.W.Frag) : Sp := fun vs H Q _ => ∃ (x : V) (m : Net) (s : Nat), vs = [x, .int (m.n : Int), .int (s : Int)] ∧ Dp K H x (.list (m.rules.map eRule)) ∧ NetOk m ∧ s < m.n ∧ ∀ H' v, Same H H' → DpL K H' v (levelP m.rules m.n s) → Q v H'
theorem findSome_first {α β : Type} {l : List α} {f : α → Option β} {k : Nat} {x : α} {y : β} (hk : l[k]? = some x) (hn : ∀ j z, j < k → l[j]? = some z → f z = none) (hy : f x = some y) : l.findSome? f = some y := by
  induction l generalizing k with
  | nil => simp at hk
  | cons a l ih =>
    cases k with
    | zero =>
      have : a = x := Option.some.inj hk
      subst this
      rw [List.findSome?_cons, hy]
    | succ k =>
      rw [List.findSome?_cons, hn 0 a (by omega) rfl]
      exact ih (k := k) hk fun j z hj hz => hn (j + 1) z (by omega) hz
theorem findSome_range {β : Type} {n k : Nat} {f : Nat → Option β} {y : β} (hk : k < n) (hn : ∀ j, j < k → f j = none) (hy : f k = some y) : (List.range n).findSome? f = some y := by
  refine findSome_first (k := k) (x := k) (List.getElem?_range hk) (fun j z hj hz => ?_) hy
  rw [List.getElem?_range (by omega)] at hz
  cases hz
  exact hn j hj
theorem findSome_rnone {β : Type} {n : Nat} {f : Nat → Option β} (hn : ∀ j, j < n → f j = none) : (List.range n).findSome? f = none := by
  rw [List.findSome?_eq_none_iff]
  exact fun x hx => hn x (List.mem_range.mp hx)
theorem taken_mix_len {m : Net} (h : NetOk m) {k : Nat} (hk : k < (mixturesTaken m.rules).length) : ((mixturesTaken m.rules).getD k []).length = m.n := by
  rw [taken_is, List.length_map] at hk
  rw [taken_is, map_getD (d := 0) hk]
  exact mixAt_len h (lefts_lt (mem_getD hk))
theorem ok_level_of (T : Tx K mg) : FnOk P w K mg base CX0 8 T.fLevelOf T.dLevelOf ["rules", "substances", "s"] (spLevel K) := by
  refine T.oLevelOf.F.ok scLevelOf (fun vs H Q E h => ?_) (fun cdv A outer s H vs Q E hr h => ?_)
  · obtain ⟨x, m, s, rfl, _⟩ := h
    rfl
  · obtain ⟨x, m, sb, rfl, hx, hm, hs, q⟩ := h
    have h8 := hm.few
    have hn4 := hm.n
    have ltk := taken_small m hm
    refine ⟨_, (pss_cons 
        (ps_set (i := 3) scLevelOf.nd rfl (.inl rfl) (pe_call (ok_mixtures_taken T) (hr.mono (by decide)) (by rfl) T.oMixturesTaken.g T.oMixturesTaken.F.kp T.oMixturesTaken.b .nil pass0 (pa_cons (pv 0) pa_nil)))
      (pss_cons 
        (ps_set (i := 4) scLevelOf.nd rfl (.inl rfl) (pe_call (ok_choices_of T) (hr.mono (by decide)) (by rfl) T.oChoicesOf.g T.oChoicesOf.F.kp T.oChoicesOf.b .nil pass0 (pa_cons (pv 0) (pa_cons (pv 1) pa_nil))))
      (pss_cons 
        (ps_for PassesOwn.never rfl (pi_range1 (by rfl) T.range (pa_cons (pe_callB (clen K) (by rfl) T.len PySem.boot_len (pa_cons (pv 3) pa_nil)) pa_nil)) (pg_name (i := 5) scLevelOf.nd rfl (.inl rfl))
          (pss_one 
            (ps_for PassesOwn.never rfl (pi_range1 (by rfl) T.range (pa_cons (pe_callB (clen K) (by rfl) T.len PySem.boot_len (pa_cons (pv 3) pa_nil)) pa_nil)) (pg_name (i := 6) scLevelOf.nd rfl (.inl rfl))
              (pss_cons 
                (ps_set (i := 7) scLevelOf.nd rfl (.inl rfl) (pe_call (ok_more_by T) (hr.mono (by decide)) (by rfl) T.oMoreBy.g T.oMoreBy.F.kp T.oMoreBy.b .nil pass0 (pa_cons (pe_ix (ixl K) (pv 3) (pv 5) (fun _ _ => rfl)) (pa_cons (pe_ix (ixl K) (pv 3) (pv 6) (fun _ _ => rfl)) (pa_cons (pv 2) pa_nil)))))
              (pss_one 
                (ps_if (pt_cmpR op_gt (pv 7) pe_int (nomark _))
                  (pss_cons 
                    (ps_set (i := 8) scLevelOf.nd rfl (.inl rfl) (pe_call (ok_ratio_among T) (hr.mono (by decide)) (by rfl) T.oRatioAmong.g T.oRatioAmong.F.kp T.oRatioAmong.b .nil pass0 (pa_cons (pv 4) (pa_cons (pv 5) (pa_cons (pv 6) pa_nil)))))
                  (pss_one 
                    (ps_if (pt_cmpR op_notN (pv 8) pe_non (nomark _))
                      (pss_one 
                        (ps_ret (pe_tup (pa_cons (pv 7) (pa_cons (pv 8) pa_nil))))) pss_nil))) pss_nil))))))
      (pss_one 
        (ps_ret pe_non))))), ?_⟩
    refine ⟨_, rfl, x, m.rules, rfl, hx, by omega, fun H1 pt ts s1 npt hpt hts => ?_⟩
    have lts : ts.length = (mixturesTaken m.rules).length := by rw [DpAll_len hts, List.length_map]
    refine ⟨_, rfl, _, rfl, x, m, rfl, Dp_mono s1 _ _ hx, hm, fun H2 pc cs s2 npc hpc hcs => ?_⟩
    have hT2 : Dp K H2 (.ref pt) (.list ((mixturesTaken m.rules).map eMix)) := .lst (SqL.of (s2 _ _ hpt)) (DpAll_mono s2 _ _ hts)
    have hC2 : Dp K H2 (.ref pc) (.list ((choicesOf m.rules m.n).map eRow)) := .lst (SqL.of hpc) hcs
    refine ⟨_, rfl, pt, ts, rfl, .inl (SqL.of (s2 _ _ hpt)), _, rfl, (small62 (by omega)).1, (small62 (by omega)).2, for_range (n := ts.length) (fun i σ H' => ∃ y5 y6 y7 y8, σ = [some x, some (.int (m.n : Int)), some (.int (sb : Int)), some (.ref pt), some (.ref pc), y5, y6, y7, y8] ∧ Same H2 H' ∧ ∀ a b, a < i → b < ts.length → levelGo m.rules m.n sb a b = none)
      ⟨none, none, none, none, rfl, Same.refl _, fun a b ha => absurd ha (Nat.not_lt_zero a)⟩ ?_ ?_⟩
    · rintro i σ H' hi ⟨y5, y6, y7, y8, rfl, sH, hno⟩
      rw [Int.zero_add]
      refine ⟨_, rfl, pt, ts, rfl, .inl (SqL.of (sH _ _ (s2 _ _ hpt))), _, rfl, (small62 (by omega)).1, (small62 (by omega)).2, for_range (n := ts.length) (fun j σ H' => ∃ y6 y7 y8, σ = [some x, some (.int (m.n : Int)), some (.int (sb : Int)), some (.ref pt), some (.ref pc), some (.int (i : Int)), y6, y7, y8] ∧ Same H2 H' ∧ ∀ b, b < j → levelGo m.rules m.n sb i b = none)
        ⟨y6, y7, y8, rfl, sH, fun b hb => absurd hb (Nat.not_lt_zero b)⟩ ?_ ?_⟩
      · rintro j σ H' hj ⟨y6, y7, y8, rfl, sH, hnj⟩
        rw [Int.zero_add]
        obtain ⟨p1, z1, u1, e1, hS1, hu1, hd1⟩ := mixes_at (Dp_mono sH _ _ hT2) (k := i) (by omega)
        cases e1
        obtain ⟨p2, z2, u2, e2, hS2, hu2, hd2⟩ := mixes_at (Dp_mono sH _ _ hT2) (k := j) (by omega)
        cases e2
        have li := taken_mix_len hm (k := i) (by omega)
        have lj := taken_mix_len hm (k := j) (by omega)
        refine ⟨_, rfl, _, rfl, pt, z1, _, _, rfl, rfl, hS1, hu1, _, rfl, _, rfl, pt, z2, _, _, rfl, rfl, hS2, hu2, _, rfl, u1, u2, _, _, sb, rfl, hd1, hd2, by omega, by omega, by omega, ?_⟩
        have eg : levelGo m.rules m.n sb i j = if 0 < moreBy ((mixturesTaken m.rules).getD i []) ((mixturesTaken m.rules).getD j []) sb then (ratioAmong (choicesOf m.rules m.n) i j).map fun q => (moreBy ((mixturesTaken m.rules).getD i []) ((mixturesTaken m.rules).getD j []) sb, q) else none := rfl
        generalize moreBy ((mixturesTaken m.rules).getD i []) ((mixturesTaken m.rules).getD j []) sb = e at *
        refine ⟨_, rfl, _, _, rfl, rfl, _, rfl, ite2 (fun hc => ?_) (fun hc => ?_)⟩
        · have hc : 0 < e := of_decide_eq_true hc
          rw [if_pos hc] at eg
          refine ⟨_, rfl, _, rfl, _, rfl, .ref pc, choicesOf m.rules m.n, (mixturesTaken m.rules).length, i, j, rfl, Dp_mono sH _ _ hC2, choice_rows hm, by omega, by omega, fun H4 v s4 hv => ?_⟩
          cases er : ratioAmong (choicesOf m.rules m.n) i j with
          | none =>
            rw [er] at hv eg
            cases hv
            refine ⟨_, rfl, rfl, _, rfl, ite2 (fun z => absurd z (by decide)) (fun _ => ?_)⟩
            refine ⟨_, _, _, rfl, sH.trans s4, fun b hb => ?_⟩
            by_cases z : b = j
            · subst z; exact eg
            · exact hnj b (by omega)
          | some q0 =>
            rw [er] at hv eg
            obtain ⟨p0, rfl, hp0⟩ := Dp_F hv
            refine ⟨_, rfl, rfl, _, rfl, ite2 (fun _ => ?_) (fun z => absurd (by rw [ref_non]; rfl) z)⟩
            refine ⟨_, rfl, _, rfl, by show 2 ≤ sizeLine; decide, fun pz npz => ?_⟩
            have s5 : Same H4 (upd H4 pz (.tup [.int e, .ref p0])) := same_upd npz
            refine q _ _ (s1.trans (s2.trans (sH.trans (s4.trans s5)))) ?_
            have el : levelP m.rules m.n sb = some (e, q0) := by
              unfold levelP
              refine findSome_range (k := i) (by omega) (fun a ha => findSome_rnone fun b hb => hno a b ha (by omega)) ?_
              exact findSome_range (k := j) (by omega) hnj eg
            rw [el]
            exact .tup (SqT.of upd_same) (.cons (.int e) (.cons (Dp_mono s5 _ _ hv) .nil))
        · have hc : ¬ 0 < e := fun z => hc (decide_eq_true z)
          rw [if_neg hc] at eg
          refine ⟨_, _, _, rfl, sH, fun b hb => ?_⟩
          by_cases z : b = j
          · subst z; exact eg
          · exact hnj b (by omega)
      · rintro σ H' ⟨y6, y7, y8, rfl, sH, hnj⟩
        refine ⟨_, _, _, _, rfl, sH, fun a b ha hb => ?_⟩
        by_cases z : a = i
        · subst z; exact hnj b hb
        · exact hno a b (by omega) hb
    · rintro σ H' ⟨y5, y6, y7, y8, rfl, sH, hno⟩
      refine q _ _ (s1.trans (s2.trans sH)) ?_
      have el : levelP m.rules m.n sb = none := by
        unfold levelP
        exact findSome_rnone fun a ha => findSome_rnone fun b hb => hno a b (by omega) (by omega)
      rw [el]
      rfl
end
end Sl

/-! power; the defs of the module point. -/
namespace Sl
open PySem PySem.Spec PyProof.Rows L2
open Kp340 (Fr Mix Net)
section
variable {P : Program} {w : World} {K : PySem.W.Frag} {mg : Str → Option Value} {base : Heap}
/-- a value that holds a fraction -/
def HoldsF (K : PySem.W.Frag) (H : Hp) (x : Fr) (Q : VK) : Prop := ∀ H' v, Same H H' → Dp K H' v (eF x) → Q v H'
/-! ### power -/
def spPower (K : PySem.W.Frag) : Sp := fun vs H Q _ => ∃ (x : V) (p : Fr) (e : Nat), vs = [x, .int (e : Int)] ∧ Dp K H x (eF p) ∧ Ok p ∧ Small 10 p ∧ e ≤ 100 ∧ HoldsF K H (Kp340.powF p e) Q
theorem ok_power (T : Tx K mg) : FnOk P w K mg base CX0 4 T.fPower T.dPower ["p", "e"] (spPower K) := by
  refine T.oPower.F.ok scPower (fun vs H Q E h => ?_) (fun cdv A outer s H vs Q E hr h => ?_)
  · obtain ⟨x, p, e, rfl, _⟩ := h
    rfl
  · obtain ⟨x, p, e, rfl, hx, op, sp, he, q⟩ := h
    refine ⟨_, (pss_cons 
        (ps_set (i := 2) scPower.nd rfl (.inl rfl) (pe_gr T.gONE))
      (pss_cons 
        (ps_for PassesOwn.never rfl (pi_range1 (by rfl) T.range (pa_cons (pv 1) pa_nil)) (pg_name (i := 3) scPower.nd rfl (.inl rfl))
          (pss_one 
            (ps_set (i := 2) scPower.nd rfl (.inl rfl) (pe_call (ok_times T) (hr.mono (by decide)) (by rfl) T.oTimes.g T.oTimes.F.kp T.oTimes.b .nil pass0 (pa_cons (pv 2) (pa_cons (pv 0) pa_nil))))))
      (pss_one 
        (ps_ret (pv 2))))), ?_⟩
    refine ⟨_, rfl, _, rfl, (small62 (by omega)).1, (small62 (by omega)).2, for_range (n := e) (fun k σ H' => ∃ v y3, σ = [some x, some (.int (e : Int)), some v, y3] ∧ Same H H' ∧ Dp K H' v (eF (Kp340.powF p k))) ⟨_, none, rfl, Same.refl _, oneD T _⟩ ?_ ?_⟩
    · rintro k σ H' hk ⟨v, y3, rfl, sH, hv⟩
      obtain ⟨o1, s1⟩ := pow_small op sp k
      refine ⟨_, rfl, _, rfl, v, x, Kp340.powF p k, p, rfl, hv, Dp_mono sH _ _ hx, o1, op, s1.mono (by omega), sp.mono (by decide), trivial, fun H4 p4 s4 np4 hp4 => ?_⟩
      refine ⟨_, _, rfl, sH.trans s4, ?_⟩
      rw [pow_succ]
      exact F_of hp4
    · rintro σ H' ⟨v, y3, rfl, sH, hv⟩
      exact ⟨_, rfl, q H' v sH hv⟩
/-! ### makes_point -/
def spMakesPoint (K : PySem.W.Frag) : Sp := fun vs H Q _ => ∃ (x : V) (row : List Nat) (n : Nat), vs = [x, .int (n : Int)] ∧ Dp K H x (.list (eInts row)) ∧ row.length ≤ 1000 ∧ ∀ H', Same H H' → Q (.bl (okPoint n row)) H'
theorem cut_one (l : List Nat) : cutV (l.map fun (k : Nat) => V.int (k : Int)) (some 1) none = (l.drop 1).map fun (k : Nat) => V.int (k : Int) := by
  have := cut_drop (l.map fun (k : Nat) => V.int (k : Int)) 1
  rw [← List.map_drop] at this
  exact this
theorem ok_makes_point (T : Tx K mg) : FnOk P w K mg base CX0 1 T.fMakesPoint T.dMakesPoint ["row", "substances"] (spMakesPoint K) := by
  refine T.oMakesPoint.F.ok scMakesPoint (fun vs H Q E h => ?_) (fun cdv A outer s H vs Q E hr h => ?_)
  · obtain ⟨x, row, n, rfl, _⟩ := h
    rfl
  · obtain ⟨x, row, n, rfl, hx, hl, q⟩ := h
    obtain ⟨a, xs, rfl, hS, hA⟩ := Dp_list hx
    have e := eInts_is hA
    subst e
    refine ⟨_, (pss_cons 
        (ps_if (pt_cmpR op_ne (pe_callB (clen K) (by rfl) T.len PySem.boot_len (pa_cons (pv 0) pa_nil)) (pe_op op_add pe_int (pv 1)) (nomark _))
          (pss_one 
            (ps_ret pe_bl)) pss_nil)
      (pss_cons 
        (ps_if (PW.pt (pw_or (pt_cmpR op_lt (pe_ix (ixl K) (pv 0) pe_int (fun _ _ => rfl)) pe_int (nomark _)) (pw_or1 (pt_cmpR op_gt (pe_ix (ixl K) (pv 0) pe_int (fun _ _ => rfl)) (pe_gi T.cMOST_DIVISOR) (nomark _)))))
          (pss_one 
            (ps_ret pe_bl)) pss_nil)
      (pss_cons 
        (ps_for PassesOwn.never rfl (pi_list (pe_slice (sll K) (pv 0) (po_some pe_int) po_none)) (pg_name (i := 2) scMakesPoint.nd rfl (.inl rfl))
          (pss_one 
            (ps_if (PW.pt (pw_or (pt_cmpR op_lt (pv 2) pe_int (nomark _)) (pw_or1 (pt_cmpR op_gt (pv 2) (pe_gi T.cMOST_NUMBER) (nomark _)))))
              (pss_one 
                (ps_ret pe_bl)) pss_nil)))
      (pss_one 
        (ps_ret pe_bl))))), ?_⟩
    have no : okPoint n row = false → ∀ H', Same H H' → Q (.bl false) H' := fun e H' s => by
      have := q H' s
      rw [e] at this
      exact this
    refine ⟨_, rfl, a, _, rfl, .inl hS, _, rfl, _, _, rfl, rfl, rfl, _, rfl, ite2 (fun hc => ?_) (fun hc => ?_)⟩
    · refine no ?_ _ (Same.refl _)
      have : row.length ≠ 1 + n := fun z => by
        rw [List.length_map, z, decide_eq_true (by show V.int _ = V.int _; congr 1)] at hc
        exact absurd hc (by decide)
      unfold okPoint
      rw [decide_eq_false this]
      rfl
    · have hlen : row.length = 1 + n := by
        rcases Decidable.em (row.length = 1 + n) with z | z
        · exact z
        · refine absurd ?_ hc
          rw [List.length_map, decide_eq_false (fun y => z (by have := V.int.inj y; omega))]
          rfl
      have h0 : 0 < row.length := by omega
      have hat : atI (row.map fun (k : Nat) => V.int (k : Int)) 0 = some (.int ((row.getD 0 0 : Nat) : Int)) := atI_nat (j := 0) (by
        rw [List.getElem?_map, get_at 0 h0]
        rfl)
      have nod : ¬ (1 ≤ row.getD 0 0 ∧ row.getD 0 0 ≤ 60) → okPoint n row = false := fun z => by
        unfold okPoint
        have : (decide (1 ≤ row.getD 0 0) && decide (row.getD 0 0 ≤ 60)) = false := by
          rw [Bool.eq_false_iff]
          intro y
          rw [Bool.and_eq_true, decide_eq_true_eq, decide_eq_true_eq] at y
          exact z y
        rw [this, Bool.and_false, Bool.false_and]
      refine ⟨_, rfl, a, _, _, _, rfl, rfl, hS, hat, _, _, rfl, rfl, _, rfl, ite2 (fun hc1 => ?_) (fun hc1 => ?_)⟩
      · have hc1 : ((row.getD 0 0 : Nat) : Int) < 1 := of_decide_eq_true hc1
        refine ite2 (fun _ => ?_) (fun z => absurd rfl z)
        exact no (nod (by omega)) _ (Same.refl _)
      · have hc1 : ¬ ((row.getD 0 0 : Nat) : Int) < 1 := fun z => hc1 (decide_eq_true z)
        refine ⟨_, rfl, a, _, _, _, rfl, rfl, hS, hat, _, _, rfl, rfl, _, rfl, ite2 (fun hc2 => ?_) (fun hc2 => ?_)⟩
        · have hc2 : (60 : Int) < ((row.getD 0 0 : Nat) : Int) := of_decide_eq_true hc2
          exact no (nod (by omega)) _ (Same.refl _)
        · have hc2 : ¬ (60 : Int) < ((row.getD 0 0 : Nat) : Int) := fun z => hc2 (decide_eq_true z)
          refine ⟨_, rfl, _, rfl, a, _, rfl, hS, fun q1 nq1 => ?_⟩
          rw [cut_one]
          have s1 : Same H (upd H q1 (.lst ((row.drop 1).map fun (k : Nat) => V.int (k : Int)))) := same_upd nq1
          have h1 : (upd H q1 (.lst ((row.drop 1).map fun (k : Nat) => V.int (k : Int)))) q1 = some (.lst ((row.drop 1).map fun (k : Nat) => V.int (k : Int))) := upd_same
          generalize upd H q1 (.lst ((row.drop 1).map fun (k : Nat) => V.int (k : Int))) = H1 at *
          refine ⟨q1, rfl, ⟨_, SqL.of h1⟩, for_list (K := K) (a := q1) (xs := (row.drop 1).map fun (k : Nat) => V.int (k : Int)) (fun i σ H' => ∃ y2, σ = [some (.ref a), some (.int (n : Int)), y2] ∧ H' = H1 ∧ ∀ v ∈ (row.drop 1).take i, 1 ≤ v ∧ v ≤ 1000) ⟨none, rfl, rfl, fun x hx => absurd hx (by simp)⟩ (fun i σ H' _ ⟨_, _, e, _⟩ => by rw [e]; exact SqL.of h1) ?_ ?_⟩
          · rintro i v σ H' hi ⟨y2, rfl, rfl, hall⟩
            obtain ⟨z, hz, rfl⟩ := map_at hi
            have noz : ¬ (1 ≤ z ∧ z ≤ 1000) → okPoint n row = false := fun y => by
              unfold okPoint
              have : ((row.drop 1).all fun v => decide (1 ≤ v) && decide (v ≤ 1000)) = false := by
                rw [List.all_eq_false]
                refine ⟨z, List.mem_of_getElem? hz, ?_⟩
                rw [Bool.and_eq_true, decide_eq_true_eq, decide_eq_true_eq]
                exact y
              rw [this, Bool.and_false]
            refine ⟨_, rfl, _, _, rfl, rfl, _, rfl, ite2 (fun hc3 => ?_) (fun hc3 => ?_)⟩
            · have hc3 : (z : Int) < 1 := of_decide_eq_true hc3
              refine ite2 (fun _ => ?_) (fun z => absurd rfl z)
              exact no (noz (by omega)) _ s1
            · have hc3 : ¬ (z : Int) < 1 := fun y => hc3 (decide_eq_true y)
              refine ⟨_, rfl, _, _, rfl, rfl, _, rfl, ite2 (fun hc4 => ?_) (fun hc4 => ?_)⟩
              · have hc4 : (1000 : Int) < (z : Int) := of_decide_eq_true hc4
                exact no (noz (by omega)) _ s1
              · have hc4 : ¬ (1000 : Int) < (z : Int) := fun y => hc4 (decide_eq_true y)
                refine ⟨_, rfl, rfl, fun x hx => ?_⟩
                rw [take_at hz] at hx
                rcases List.mem_append.mp hx with h | h
                · exact hall x h
                · rw [List.mem_singleton.mp h]
                  omega
          · rintro σ H' ⟨y2, rfl, rfl, hall⟩
            rw [List.length_map, List.take_length] at hall
            have e : okPoint n row = true := by
              unfold okPoint
              have : ((row.drop 1).all fun v => decide (1 ≤ v) && decide (v ≤ 1000)) = true := List.all_eq_true.mpr fun v hv => by
                have := hall v hv
                rw [decide_eq_true this.1, decide_eq_true this.2]
                rfl
              rw [this, decide_eq_true hlen, decide_eq_true (show 1 ≤ row.getD 0 0 by omega), decide_eq_true (show row.getD 0 0 ≤ 60 by omega)]
              rfl
            have := q _ s1
            rw [e] at this
            exact this
/-! ### amounts_at -/
def spAmounts (K : PySem.W.Frag) : Sp := fun vs H Q _ => ∃ (x : V) (row : List Nat) (n : Nat), vs = [x] ∧ Dp K H x (.list (eInts row)) ∧ PointOk n row ∧ row.length ≤ 1000 ∧ GivesL K H ((amounts row).map eF) Q
theorem ok_amounts_at (T : Tx K mg) : FnOk P w K mg base CX0 3 T.fAmountsAt T.dAmountsAt ["row"] (spAmounts K) := by
  refine T.oAmountsAt.F.ok scAmountsAt (fun vs H Q E h => ?_) (fun cdv A outer s H vs Q E hr h => ?_)
  · obtain ⟨x, row, n, rfl, _⟩ := h
    rfl
  · obtain ⟨x, row, n, rfl, hx, hp, hl, q⟩ := h
    obtain ⟨a, xs, rfl, hS, hA⟩ := Dp_list hx
    have e := eInts_is hA
    subst e
    have h0 : 0 < row.length := by have := hp.len; omega
    have hat : atI (row.map fun (k : Nat) => V.int (k : Int)) 0 = some (.int ((row.getD 0 0 : Nat) : Int)) := atI_nat (j := 0) (by
      rw [List.getElem?_map, get_at 0 h0]
      rfl)
    refine ⟨_, (pss_one 
        (ps_ret (pe_lc (own := [("number", 1)]) (g := gName 1) (tt := tYes) rfl scAmountsAt.nd (pi_list (pe_slice (sll K) (pv 0) (po_some pe_int) po_none)) (blkOk_by (N := NAmountsAt) (sc := defScope sAmountsAt) (by decide +kernel)) (fun _ _ _ _ _ => pg_name (i := 1) scAmountsAt.nd rfl (Or.inl rfl)) (fun _ _ _ _ _ => pts_nil) (fun _ _ _ _ _ => (pe_call (ok_lowest T) (hr.mono (by decide)) (by rfl) T.oLowest.g T.oLowest.F.kp T.oLowest.b .nil pass0 (pa_cons (pv 1) (pa_cons (pe_ix (ixl K) (pv 0) pe_int (fun _ _ => rfl)) pa_nil))))))), ?_⟩
    refine ⟨_, rfl, _, rfl, a, _, rfl, hS, fun q1 nq1 => ?_⟩
    rw [cut_one]
    have s1 : Same H (upd H q1 (.lst ((row.drop 1).map fun (k : Nat) => V.int (k : Int)))) := same_upd nq1
    have h1 : (upd H q1 (.lst ((row.drop 1).map fun (k : Nat) => V.int (k : Int)))) q1 = some (.lst ((row.drop 1).map fun (k : Nat) => V.int (k : Int))) := upd_same
    generalize upd H q1 (.lst ((row.drop 1).map fun (k : Nat) => V.int (k : Int))) = H1 at *
    have hd := hp.div
    refine ⟨q1, rfl, ⟨_, SqL.of h1⟩, fun D hD => lc_map (ds := (amounts row).map eF) (SqL.of h1) (by unfold amounts; rw [List.length_map, List.length_map, List.length_map]) (by unfold amounts; rw [List.length_map, List.length_map, List.length_drop]; exact smallS (by omega)) hD (fun k x d H3 acc hk hd3 s3 hA3 Q' kk => ?_) (fun H4 rs s4 h4 hrs => q H4 D rs (s1.trans s4) (s1.free hD) h4 hrs)⟩
    obtain ⟨z, hz, rfl⟩ := map_at hk
    unfold amounts at hd3
    rw [List.map_map] at hd3
    obtain ⟨z', hz', rfl⟩ := map_at hd3
    rw [hz] at hz'
    cases hz'
    refine ⟨_, rfl, _, rfl, a, _, _, _, rfl, rfl, Same.seq (s1.trans s3) hS, hat, (z : Int), ((row.getD 0 0 : Nat) : Int), rfl, by omega, ?_, gF hA3 kk⟩
    refine lt_mono (a := 10) ?_ (by decide)
    have p10 : (2 : Nat) ^ 10 = 1024 := by decide
    omega
/-! ### weight_of -/
def spWeight (K : PySem.W.Frag) : Sp := fun vs H Q _ => ∃ (x y : V) (mix : Mix) (as : List Fr), vs = [x, y] ∧ Dp K H x (eMix mix) ∧ Dp K H y (eRow as) ∧ mix.length = as.length ∧ as.length ≤ 4 ∧ AmOk as ∧ (∀ k, mix.getD k 0 ≤ 3) ∧ HoldsF K H (weightP as mix) Q
theorem ok_weight_of (T : Tx K mg) : FnOk P w K mg base CX0 5 T.fWeightOf T.dWeightOf ["mixture", "amounts"] (spWeight K) := by
  refine T.oWeightOf.F.ok scWeightOf (fun vs H Q E h => ?_) (fun cdv A outer s H vs Q E hr h => ?_)
  · obtain ⟨x, y, mix, as, rfl, _⟩ := h
    rfl
  · obtain ⟨x, y, mix, as, rfl, hx, hy, hl, h4, ha, hm, q⟩ := h
    obtain ⟨px, xs, rfl, hSx, hAx⟩ := Dp_tuple hx
    have len : xs.length = mix.length := by rw [DpAll_len hAx, List.length_map]
    refine ⟨_, (pss_cons 
        (ps_set (i := 2) scWeightOf.nd rfl (.inl rfl) (pe_gr T.gONE))
      (pss_cons 
        (ps_for PassesOwn.never rfl (pi_range1 (by rfl) T.range (pa_cons (pe_callB (clen K) (by rfl) T.len PySem.boot_len (pa_cons (pv 0) pa_nil)) pa_nil)) (pg_name (i := 3) scWeightOf.nd rfl (.inl rfl))
          (pss_one 
            (ps_set (i := 2) scWeightOf.nd rfl (.inl rfl) (pe_call (ok_times T) (hr.mono (by decide)) (by rfl) T.oTimes.g T.oTimes.F.kp T.oTimes.b .nil pass0 (pa_cons (pv 2) (pa_cons (pe_call (ok_power T) (hr.mono (by decide)) (by rfl) T.oPower.g T.oPower.F.kp T.oPower.b .nil pass0 (pa_cons (pe_ix (ixl K) (pv 1) (pv 3) (fun _ _ => rfl)) (pa_cons (pe_ix (ixt K) (pv 0) (pv 3) (fun _ _ => rfl)) pa_nil))) pa_nil))))))
      (pss_one 
        (ps_ret (pv 2))))), ?_⟩
    refine ⟨_, rfl, px, xs, rfl, .inr hSx, _, rfl, (small62 (by omega)).1, (small62 (by omega)).2, for_range (n := xs.length) (fun k σ H' => ∃ v y3, σ = [some (.ref px), some y, some v, y3] ∧ Same H H' ∧ Dp K H' v (eF (weightTo as mix k))) ⟨_, none, rfl, Same.refl _, oneD T _⟩ ?_ ?_⟩
    · rintro k σ H' hk ⟨v, y3, rfl, sH, hv⟩
      rw [Int.zero_add]
      obtain ⟨o1, s1⟩ := weightTo_small ha hm k
      obtain ⟨o2, s2⟩ := ha.at k
      obtain ⟨o3, s3⟩ := pow_small o2 s2 (mix.getD k 0)
      have hmk := hm k
      obtain ⟨p1, ys1, t1, rfl, hS1, ht1, hd1⟩ := row_at_is (Dp_mono sH _ _ hy) (c := k) (by omega)
      obtain ⟨p2, ys2, e2, hS2, ht2⟩ := mix_at (Dp_mono sH _ _ hx) (s := k) (by omega)
      cases e2
      refine ⟨_, rfl, _, rfl, _, rfl, p1, ys1, _, _, rfl, rfl, hS1, ht1, _, rfl, _, rfl, px, ys2, _, _, rfl, rfl, hS2, ht2, t1, _, mix.getD k 0, rfl, hd1, o2, s2, by omega, fun H4 v4 s4 hv4 => ?_⟩
      refine ⟨v, v4, _, _, rfl, Dp_mono s4 _ _ hv, hv4, o1, o3, s1.mono (by omega), s3.mono (by omega), trivial, fun H5 p5 s5 np5 hp5 => ?_⟩
      refine ⟨_, _, rfl, sH.trans (s4.trans s5), ?_⟩
      rw [weightTo_succ]
      exact F_of hp5
    · rintro σ H' ⟨v, y3, rfl, sH, hv⟩
      rw [len] at hv
      exact ⟨_, rfl, q H' v sH hv⟩
/-! ### change_of -/
def spChange (K : PySem.W.Frag) : Sp := fun vs H Q _ => ∃ (x y : V) (rules : List Kp340.Rule) (as : List Fr) (s : Nat), vs = [x, y, .int (s : Int)] ∧ Dp K H x (.list (rules.map eRule)) ∧ Dp K H y (eRow as) ∧ (∀ r ∈ rules, RuleOk as.length r) ∧ rules.length ≤ 8 ∧ as.length ≤ 4 ∧ AmOk as ∧ s < as.length ∧ HoldsF K H (changeTo rules as s) Q
theorem ok_change_of (T : Tx K mg) : FnOk P w K mg base CX0 6 T.fChangeOf T.dChangeOf ["rules", "amounts", "s"] (spChange K) := by
  refine T.oChangeOf.F.ok scChangeOf (fun vs H Q E h => ?_) (fun cdv A outer s H vs Q E hr h => ?_)
  · obtain ⟨x, y, rules, as, s, rfl, _⟩ := h
    rfl
  · obtain ⟨x, y, rules, as, sb, rfl, hx, hy, hru, h8, h4, ha, hs, q⟩ := h
    obtain ⟨a, xs, rfl, hS, hA⟩ := Dp_list hx
    have len : xs.length = rules.length := by rw [DpAll_len hA, List.length_map]
    refine ⟨_, (pss_cons 
        (ps_set (i := 3) scChangeOf.nd rfl (.inl rfl) (pe_gr T.gZERO))
      (pss_cons 
        (ps_for PassesOwn.never rfl (pi_list (pv 0)) (pg_name (i := 4) scChangeOf.nd rfl (.inl rfl))
          (pss_cons 
            (ps_set (i := 5) scChangeOf.nd rfl (.inl rfl) (pe_op op_sub (pe_ix (ixt K) (pe_ix (ixt K) (pv 4) pe_int (fun _ _ => rfl)) (pv 2) (fun _ _ => rfl)) (pe_ix (ixt K) (pe_ix (ixt K) (pv 4) pe_int (fun _ _ => rfl)) (pv 2) (fun _ _ => rfl))))
          (pss_cons 
            (ps_set (i := 6) scChangeOf.nd rfl (.inl rfl) (pe_call (ok_times T) (hr.mono (by decide)) (by rfl) T.oTimes.g T.oTimes.F.kp T.oTimes.b .nil pass0 (pa_cons (pe_ix (ixt K) (pv 4) pe_int (fun _ _ => rfl)) (pa_cons (pe_call (ok_weight_of T) (hr.mono (by decide)) (by rfl) T.oWeightOf.g T.oWeightOf.F.kp T.oWeightOf.b .nil pass0 (pa_cons (pe_ix (ixt K) (pv 4) pe_int (fun _ _ => rfl)) (pa_cons (pv 1) pa_nil))) pa_nil))))
          (pss_one 
            (ps_set (i := 3) scChangeOf.nd rfl (.inl rfl) (pe_call (ok_plus T) (hr.mono (by decide)) (by rfl) T.oPlus.g T.oPlus.F.kp T.oPlus.b .nil pass0 (pa_cons (pv 3) (pa_cons (pe_call (ok_times T) (hr.mono (by decide)) (by rfl) T.oTimes.g T.oTimes.F.kp T.oTimes.b .nil pass0 (pa_cons (pv 6) (pa_cons (pe_tup (pa_cons (pv 5) (pa_cons pe_int pa_nil))) pa_nil))) pa_nil))))))))
      (pss_one 
        (ps_ret (pv 3))))), ?_⟩
    refine ⟨_, rfl, a, rfl, ⟨_, hS⟩, for_list (K := K) (a := a) (xs := xs) (fun k σ H' => ∃ v3 y4 y5 y6, σ = [some (.ref a), some y, some (.int (sb : Int)), some v3, y4, y5, y6] ∧ Same H H' ∧ Dp K H' v3 (eF (changeTo (rules.take k) as sb)))
      ⟨_, none, none, none, rfl, Same.refl _, zeroD T _⟩ (fun k σ H' _ ⟨_, _, _, _, _, s5, _⟩ => Same.seq s5 hS) ?_ ?_⟩
    · rintro k v σ H' hk ⟨v3, y4, y5, y6, rfl, sH, h3⟩
      obtain ⟨e, he, hde⟩ := DpAll_at (DpAll_mono sH _ _ hA) hk
      obtain ⟨r, hr, rfl⟩ := map_at he
      have ro := hru r (List.mem_of_getElem? hr)
      have es := changeTo_succ (as := as) (s := sb) hr
      obtain ⟨b1, b2⟩ := changeTo_small h4 ha sb (rules.take k) fun r hr => hru r (List.mem_of_mem_take hr)
      have b2 : Small 1200 (changeTo (rules.take k) as sb) := b2.mono (by rw [List.length_take]; omega)
      generalize changeTo (rules.take k) as sb = tot at *
      obtain ⟨⟨w1, w2⟩, f1, f2⟩ := flow_small ro h4 ha
      obtain ⟨p, vl, vr, vsp, rfl, hT, hl, hrt, hsp⟩ := Dp_rule hde
      obtain ⟨pr, zr, e1, hSr, hrs⟩ := mix_at hrt (s := sb) (by rw [ro.right]; exact hs)
      obtain ⟨pl, zl, e2, hSl, hls⟩ := mix_at hl (s := sb) (by rw [ro.left]; exact hs)
      -- gain
      refine ⟨_, rfl, p, _, 1, _, rfl, rfl, hT, t1, _, rfl, pr, zr, _, _, e1, rfl, hSr, hrs, _, rfl, p, _, 0, _, rfl, rfl, hT, t0, _, rfl, pl, zl, _, _, e2, rfl, hSl, hls, _, _, rfl, rfl, ?_⟩
      -- flow
      refine ⟨_, rfl, p, _, 2, _, rfl, rfl, hT, t2, _, rfl, p, _, 0, _, rfl, rfl, hT, t0, _, rfl, vl, y, r.left, as, rfl, hl, Dp_mono sH _ _ hy, ro.left, h4, ha, mix3 ro.small.1, fun H4 v4 s4 hv4 => ?_⟩
      refine ⟨vsp, v4, r.speed, weightP as r.left, rfl, Dp_mono s4 _ _ hsp, hv4, ro.ok, w1, (speed_small ro).mono (by decide), w2.mono (by decide), trivial, fun H5 p5 s5 np5 hp5 => ?_⟩
      -- total
      refine ⟨_, rfl, _, rfl, _, rfl, by show 2 ≤ sizeLine; decide, fun tg ntg => ?_⟩
      have s6 : Same H5 (upd H5 tg (.tup [.int (Kp341.delta r sb), .int 1])) := same_upd ntg
      have od := okI (Kp341.delta r sb)
      refine ⟨.ref p5, .ref tg, _, (Kp341.delta r sb, 1), rfl, Dp_mono s6 _ _ (F_of hp5), F_of (x := (Kp341.delta r sb, 1)) upd_same, f1, od, f2.mono (by decide), (delta_small ro sb).mono (by decide), trivial, fun H7 p7 s7 np7 hp7 => ?_⟩
      have om := mul_ok f1 od
      have sm := mul_small f1 od f2 (delta_small ro sb)
      refine ⟨v3, .ref p7, tot, _, rfl, Dp_mono (s4.trans (s5.trans (s6.trans s7))) _ _ h3, F_of hp7, b1, om, b2.mono (by decide), sm.mono (by decide), trivial, fun H8 p8 s8 np8 hp8 => ?_⟩
      refine ⟨_, _, _, _, rfl, sH.trans (s4.trans (s5.trans (s6.trans (s7.trans s8)))), ?_⟩
      rw [es]
      exact F_of hp8
    · rintro σ H' ⟨v3, y4, y5, y6, rfl, sH, h3⟩
      rw [len, List.take_length] at h3
      exact ⟨_, rfl, q H' v3 sH h3⟩
/-! ### is_steady -/
def spSteadyP (K : PySem.W.Frag) : Sp := fun vs H Q _ => ∃ (x y : V) (rules : List Kp340.Rule) (as : List Fr), vs = [x, y] ∧ Dp K H x (.list (rules.map eRule)) ∧ Dp K H y (eRow as) ∧ (∀ r ∈ rules, RuleOk as.length r) ∧ rules.length ≤ 8 ∧ as.length ≤ 4 ∧ AmOk as ∧ ∀ H', Same H H' → Q (.bl (steadyP rules as as.length)) H'
theorem all_false {n i : Nat} {p : Nat → Bool} (hi : i < n) (h : p i = false) : (List.range n).all p = false := by
  rw [List.all_eq_false]
  exact ⟨i, List.mem_range.mpr hi, by rw [h]; decide⟩
theorem all_true {n : Nat} {p : Nat → Bool} (h : ∀ i, i < n → p i = true) : (List.range n).all p = true := List.all_eq_true.mpr fun i hi => h i (List.mem_range.mp hi)
theorem ok_is_steady (T : Tx K mg) : FnOk P w K mg base CX0 7 T.fIsSteady T.dIsSteady ["rules", "amounts"] (spSteadyP K) := by
  refine T.oIsSteady.F.ok scIsSteady (fun vs H Q E h => ?_) (fun cdv A outer s H vs Q E hr h => ?_)
  · obtain ⟨x, y, rules, as, rfl, _⟩ := h
    rfl
  · obtain ⟨x, y, rules, as, rfl, hx, hy, hru, h8, h4, ha, q⟩ := h
    obtain ⟨py, ys, rfl, hSy, hAy⟩ := Dp_list hy
    have len : ys.length = as.length := by rw [DpAll_len hAy, List.length_map]
    refine ⟨_, (pss_cons 
        (ps_for PassesOwn.never rfl (pi_range1 (by rfl) T.range (pa_cons (pe_callB (clen K) (by rfl) T.len PySem.boot_len (pa_cons (pv 1) pa_nil)) pa_nil)) (pg_name (i := 2) scIsSteady.nd rfl (.inl rfl))
          (pss_one 
            (ps_if (pt_cmpR (ned K (hu64 hr)) (pe_call (ok_change_of T) (hr.mono (by decide)) (by rfl) T.oChangeOf.g T.oChangeOf.F.kp T.oChangeOf.b .nil pass0 (pa_cons (pv 0) (pa_cons (pv 1) (pa_cons (pv 2) pa_nil)))) (pe_gr T.gZERO) (nomark _))
              (pss_one 
                (ps_ret pe_bl)) pss_nil)))
      (pss_one 
        (ps_ret pe_bl))), ?_⟩
    refine ⟨_, rfl, py, ys, rfl, .inl hSy, _, rfl, (small62 (by omega)).1, (small62 (by omega)).2, for_range (n := ys.length) (fun k σ H' => ∃ y2, σ = [some x, some (.ref py), y2] ∧ Same H H' ∧ ∀ j, j < k → decide (changeTo rules as j = (0, 1)) = true) ⟨none, rfl, Same.refl _, fun j hj => absurd hj (Nat.not_lt_zero j)⟩ ?_ ?_⟩
    · rintro k σ H' hk ⟨y2, rfl, sH, hall⟩
      rw [Int.zero_add]
      refine ⟨_, rfl, _, rfl, _, rfl, x, .ref py, rules, as, k, rfl, Dp_mono sH _ _ hx, Dp_mono sH _ _ hy, hru, h8, h4, ha, by omega, fun H4 v4 s4 hv4 => ?_⟩
      refine ⟨eF _, eF (0, 1), hv4, zeroD T _, shaped_F _, shaped_F _, _, rfl, ite2 (fun hc => ?_) (fun hc => ?_)⟩
      · rw [eqv_F] at hc
        have hc : decide (changeTo rules as k = (0, 1)) = false := by simpa using hc
        have e : steadyP rules as as.length = false := all_false (i := k) (by omega) hc
        have := q H4 (sH.trans s4)
        rw [e] at this
        exact this
      · rw [eqv_F] at hc
        have hc : decide (changeTo rules as k = (0, 1)) = true := by simpa using hc
        refine ⟨_, rfl, sH.trans s4, fun j hj => ?_⟩
        by_cases z : j = k
        · subst z; exact hc
        · exact hall j (by omega)
    · rintro σ H' ⟨y2, rfl, sH, hall⟩
      have e : steadyP rules as as.length = true := all_true fun i hi => hall i (by omega)
      have := q H' sH
      rw [e] at this
      exact this
/-! ### is_met -/
def spMetP (K : PySem.W.Frag) : Sp := fun vs H Q _ => ∃ (x y : V) (m : Net) (as : List Fr), vs = [x, y] ∧ Dp K H x (.list (m.rules.map eRule)) ∧ Dp K H y (eRow as) ∧ NetOk m ∧ as.length = m.n ∧ AmOk as ∧ ∀ H', Same H H' → Q (.bl (metP m as)) H'
theorem moreBy_le {a b : Mix} {s : Nat} (h : a.getD s 0 ≤ 3) : moreBy a b s ≤ 3 := by
  unfold moreBy
  split
  · omega
  · omega
theorem levelP_le {m : Net} (h : NetOk m) {s : Nat} {x : Int × Fr} (hx : levelP m.rules m.n s = some x) : 0 < x.1 ∧ x.1 ≤ 3 := by
  unfold levelP at hx
  obtain ⟨i, hi, hx⟩ := List.exists_of_findSome?_eq_some hx
  obtain ⟨j, hj, hx⟩ := List.exists_of_findSome?_eq_some hx
  unfold levelGo at hx
  split at hx
  · rename_i hp
    cases er : ratioAmong (choicesOf m.rules m.n) i j with
    | none => rw [er] at hx; cases hx
    | some q =>
      rw [er] at hx
      cases hx
      refine ⟨hp, moreBy_le ?_⟩
      have hi := List.mem_range.mp hi
      rw [taken_is, List.length_map] at hi
      rw [taken_is, map_getD (d := 0) hi]
      exact mix_small h (mem_getD (lefts_lt (mem_getD hi))) s
  · cases hx
theorem ok_is_met (T : Tx K mg) : FnOk P w K mg base CX0 9 T.fIsMet T.dIsMet ["rules", "amounts"] (spMetP K) := by
  refine T.oIsMet.F.ok scIsMet (fun vs H Q E h => ?_) (fun cdv A outer s H vs Q E hr h => ?_)
  · obtain ⟨x, y, m, as, rfl, _⟩ := h
    rfl
  · obtain ⟨x, y, m, as, rfl, hx, hy, hm, hn, ha, q⟩ := h
    obtain ⟨py, ys, rfl, hSy, hAy⟩ := Dp_list hy
    have len : ys.length = m.n := by rw [DpAll_len hAy, List.length_map, hn]
    have hn4 := hm.n
    refine ⟨_, (pss_cons 
        (ps_for PassesOwn.never rfl (pi_range1 (by rfl) T.range (pa_cons (pe_callB (clen K) (by rfl) T.len PySem.boot_len (pa_cons (pv 1) pa_nil)) pa_nil)) (pg_name (i := 2) scIsMet.nd rfl (.inl rfl))
          (pss_cons 
            (ps_set (i := 3) scIsMet.nd rfl (.inl rfl) (pe_call (ok_level_of T) (hr.mono (by decide)) (by rfl) T.oLevelOf.g T.oLevelOf.F.kp T.oLevelOf.b .nil pass0 (pa_cons (pv 0) (pa_cons (pe_callB (clen K) (by rfl) T.len PySem.boot_len (pa_cons (pv 1) pa_nil)) (pa_cons (pv 2) pa_nil)))))
          (pss_one 
            (ps_if (PW.pt (pw_and (pt_cmpR op_notN (pv 3) pe_non (nomark _)) (pw_and1 (pt_cmpR (ned K (hu64 hr)) (pe_call (ok_power T) (hr.mono (by decide)) (by rfl) T.oPower.g T.oPower.F.kp T.oPower.b .nil pass0 (pa_cons (pe_ix (ixl K) (pv 1) (pv 2) (fun _ _ => rfl)) (pa_cons (pe_ix (ixt K) (pv 3) pe_int (fun _ _ => rfl)) pa_nil))) (pe_ix (ixt K) (pv 3) pe_int (fun _ _ => rfl)) (nomark _)))))
              (pss_one 
                (ps_ret pe_bl)) pss_nil))))
      (pss_one 
        (ps_ret pe_bl))), ?_⟩
    refine ⟨_, rfl, py, ys, rfl, .inl hSy, _, rfl, (small62 (by omega)).1, (small62 (by omega)).2, for_range (n := ys.length) (fun k σ H' => ∃ y2 y3, σ = [some x, some (.ref py), y2, y3] ∧ Same H H' ∧ ∀ j, j < k → metAt m as j = true) ⟨none, none, rfl, Same.refl _, fun j hj => absurd hj (Nat.not_lt_zero j)⟩ ?_ ?_⟩
    · rintro k σ H' hk ⟨y2, y3, rfl, sH, hall⟩
      rw [Int.zero_add]
      refine ⟨_, rfl, _, rfl, py, ys, rfl, .inl (Same.seq sH hSy), _, rfl, x, m, k, by rw [len]; rfl, Dp_mono sH _ _ hx, hm, by omega, fun H4 v4 s4 hv4 => ?_⟩
      cases el : levelP m.rules m.n k with
      | none =>
        rw [el] at hv4
        cases hv4
        have em : metAt m as k = true := by
          unfold metAt
          rw [el]
        refine ⟨_, rfl, rfl, _, rfl, ite2 (fun z => absurd z (by decide)) (fun _ => ite2 (fun z => absurd z (by decide)) (fun _ => ?_))⟩
        refine ⟨_, _, rfl, sH.trans s4, fun j hj => ?_⟩
        by_cases z : j = k
        · subst z; exact em
        · exact hall j (by omega)
      | some lv =>
        rw [el] at hv4
        obtain ⟨p0, xs0, rfl, hp0, hA0⟩ := Dp_tuple (show Dp K H4 v4 (.tuple [.int lv.1, eF lv.2]) from hv4)
        cases hA0 with
        | cons h1 hA0 =>
          cases hA0 with
          | cons h2 hA0 =>
            cases hA0
            cases h1
            obtain ⟨l1, l2⟩ := levelP_le hm el
            have em : metAt m as k = decide (Kp340.powF (as.getD k (0, 1)) lv.1.toNat = lv.2) := by
              unfold metAt
              rw [el]
            obtain ⟨o2, s2⟩ := ha.at k
            refine ⟨_, rfl, rfl, _, rfl, ite2 (fun _ => ?_) (fun z => absurd (by rfl) z)⟩
            obtain ⟨p1, ys1, t1, e1, hS1, ht1, hd1⟩ := row_at_is (Dp_mono (sH.trans s4) _ _ hy) (c := k) (by omega)
            cases e1
            refine ⟨_, rfl, _, rfl, py, ys1, _, _, rfl, rfl, hS1, ht1, _, rfl, p0, _, 0, _, rfl, rfl, hp0, at0, t1, as.getD k (0, 1), lv.1.toNat, by rw [Int.toNat_of_nonneg (by omega)]; rfl, hd1, o2, s2, by omega, fun H5 v5 s5 hv5 => ?_⟩
            refine ⟨_, rfl, p0, _, 1, _, rfl, rfl, SqT_keep (same_keepT s5) hp0, at1, eF _, eF _, hv5, Dp_mono s5 _ _ h2, shaped_F _, shaped_F _, _, rfl, ite2 (fun hc => ?_) (fun hc => ?_)⟩
            · rw [eqv_F, ← em] at hc
              have hc : metAt m as k = false := by simpa using hc
              have e : metP m as = false := all_false (i := k) (by omega) hc
              have := q H5 (sH.trans (s4.trans s5))
              rw [e] at this
              exact this
            · rw [eqv_F, ← em] at hc
              have hc : metAt m as k = true := by simpa using hc
              refine ⟨_, _, rfl, sH.trans (s4.trans s5), fun j hj => ?_⟩
              by_cases z : j = k
              · subst z; exact hc
              · exact hall j (by omega)
    · rintro σ H' ⟨y2, y3, rfl, sH, hall⟩
      have e : metP m as = true := all_true fun i hi => hall i (by omega)
      have := q H' sH
      rw [e] at this
      exact this
end
end Sl

/-! The defs of the module knot: steps, what's come to, what stays. -/
namespace Sl
open PySem PySem.Spec PyProof.Rows L2
open Kp340 (Fr Mix Net)
def eStep (s : Step) : PyData := .tuple [eMix s.1, eMix s.2]
theorem tup_step (s : Step) : tupD (eStep s) = true := by
  show (tupD (eMix s.1) && (tupD (eMix s.2) && true)) = true
  rw [tup_mix, tup_mix]
  rfl
theorem tup_steps : ∀ l : List Step, tupAll (l.map eStep) = true
  | [] => rfl
  | x :: l => by
    show (tupD (eStep x) && tupAll (l.map eStep)) = true
    rw [tup_step, tup_steps l]
    rfl
section
variable {P : Program} {w : World} {K : PySem.W.Frag} {mg : Str → Option Value} {base : Heap}
theorem Dp_step {H : Hp} {v : V} {s : Step} (h : Dp K H v (eStep s)) : ∃ p a b, v = .ref p ∧ SqT K H p [a, b] ∧ Dp K H a (eMix s.1) ∧ Dp K H b (eMix s.2) := by
  obtain ⟨p, xs, rfl, hS, hA⟩ := Dp_tuple h
  cases hA with
  | cons h1 hA =>
    cases hA with
    | cons h2 hA =>
      cases hA
      exact ⟨p, _, _, rfl, hS, h1, h2⟩
/-- a new tuple made in a comprehension -/
theorem newT {H3 : Hp} {D t : Addr} {acc vs : List V} {ds : List PyData} {Q' : VK} (hD : H3 D = some (.lst acc)) (nt : H3 t = none) (tt : tupAll ds = true) (h : DpAll K H3 vs ds) (k : ∀ H4 y, Same H3 H4 → Dp K (hide H4 D) y (.tuple ds) → Q' y H4) : Q' (.ref t) (upd H3 t (.tup vs)) := by
  have s : Same H3 (upd H3 t (.tup vs)) := same_upd nt
  exact k _ _ s (Dp_keep (keepT_hide (notup_lst (s _ _ hD))) tt (.tup (SqT.of upd_same) (DpAll_mono s _ _ h)))
/-! ### steps_forwards -/
def spSteps (K : PySem.W.Frag) (f : List Kp340.Rule → List Step) : Sp := fun vs H Q _ => ∃ (x : V) (rules : List Kp340.Rule), vs = [x] ∧ Dp K H x (.list (rules.map eRule)) ∧ rules.length ≤ 400 ∧ GivesL K H ((f rules).map eStep) Q
theorem ok_steps_forwards (T : Tx K mg) : FnOk P w K mg base CX0 1 T.fStepsForwards T.dStepsForwards ["rules"] (spSteps K stepsF) := by
  refine T.oStepsForwards.F.ok scStepsForwards (fun vs H Q E h => ?_) (fun cdv A outer s H vs Q E hr h => ?_)
  · obtain ⟨x, rules, rfl, _⟩ := h
    rfl
  · obtain ⟨x, rules, rfl, hx, h8, q⟩ := h
    obtain ⟨a, xs, rfl, hS, hA⟩ := Dp_list hx
    have len : xs.length = rules.length := by rw [DpAll_len hA, List.length_map]
    refine ⟨_, (pss_one 
        (ps_ret (pe_lc (own := [("rule", 1)]) (g := gName 1) (tt := tYes) rfl scStepsForwards.nd (pi_list (pv 0)) (blkOk_by (N := NStepsForwards) (sc := defScope sStepsForwards) (by decide +kernel)) (fun _ _ _ _ _ => pg_name (i := 1) scStepsForwards.nd rfl (Or.inl rfl)) (fun _ _ _ _ _ => pts_nil) (fun _ _ _ _ _ => (pe_tup (pa_cons (pe_ix (ixt K) (pv 1) pe_int (fun _ _ => rfl)) (pa_cons (pe_ix (ixt K) (pv 1) pe_int (fun _ _ => rfl)) pa_nil))))))), ?_⟩
    refine ⟨_, rfl, a, rfl, ⟨_, hS⟩, fun D hD => lc_map (ds := (stepsF rules).map eStep) hS (by unfold stepsF; rw [len, List.length_map, List.length_map]) (by unfold stepsF; rw [List.length_map, List.length_map]; exact smallS (by omega)) hD (fun k x d H3 acc hk hd s3 hA3 Q' kk => ?_) (q.at hD)⟩
    obtain ⟨e, he, hde⟩ := DpAll_at (DpAll_mono s3 _ _ hA) hk
    obtain ⟨r, hr, rfl⟩ := map_at he
    unfold stepsF at hd
    rw [List.map_map] at hd
    obtain ⟨r', hr', rfl⟩ := map_at hd
    rw [hr] at hr'
    cases hr'
    obtain ⟨p, vl, vr, vsp, rfl, hT, hl, hrt, _⟩ := Dp_rule hde
    refine ⟨_, rfl, p, _, 0, _, rfl, rfl, hT, t0, _, rfl, p, _, 1, _, rfl, rfl, hT, t1, by show 2 ≤ sizeLine; decide, fun t nt => ?_⟩
    exact newT hA3 nt (tup_step (r.left, r.right)) (.cons hl (.cons hrt .nil)) kk
/-! ### steps_both_ways -/
theorem ok_steps_both_ways (T : Tx K mg) : FnOk P w K mg base CX0 2 T.fStepsBothWays T.dStepsBothWays ["rules"] (spSteps K stepsB) := by
  refine T.oStepsBothWays.F.ok scStepsBothWays (fun vs H Q E h => ?_) (fun cdv A outer s H vs Q E hr h => ?_)
  · obtain ⟨x, rules, rfl, _⟩ := h
    rfl
  · obtain ⟨x, rules, rfl, hx, h8, q⟩ := h
    refine ⟨_, (pss_one 
        (ps_ret (pe_op op_cat (pe_call (ok_steps_forwards T) (hr.mono (by decide)) (by rfl) T.oStepsForwards.g T.oStepsForwards.F.kp T.oStepsForwards.b .nil pass0 (pa_cons (pv 0) pa_nil)) (pe_lc (own := [("rule", 1)]) (g := gName 1) (tt := tYes) rfl scStepsBothWays.nd (pi_list (pv 0)) (blkOk_by (N := NStepsBothWays) (sc := defScope sStepsBothWays) (by decide +kernel)) (fun _ _ _ _ _ => pg_name (i := 1) scStepsBothWays.nd rfl (Or.inl rfl)) (fun _ _ _ _ _ => pts_nil) (fun _ _ _ _ _ => (pe_tup (pa_cons (pe_ix (ixt K) (pv 1) pe_int (fun _ _ => rfl)) (pa_cons (pe_ix (ixt K) (pv 1) pe_int (fun _ _ => rfl)) pa_nil)))))))), ?_⟩
    refine ⟨_, rfl, x, rules, rfl, hx, h8, fun H1 pf fs s1 npf hpf hfs => ?_⟩
    obtain ⟨a, xs, rfl, hS, hA⟩ := Dp_list hx
    have len : xs.length = rules.length := by rw [DpAll_len hA, List.length_map]
    have lf : fs.length = rules.length := by
      rw [DpAll_len hfs, List.length_map]
      unfold stepsF
      rw [List.length_map]
    have hS1 := Same.seq s1 hS
    refine ⟨_, rfl, a, rfl, ⟨_, hS1⟩, fun D hD => lc_map (ds := (rules.map fun r => (r.right, r.left)).map eStep) hS1 (by rw [len, List.length_map, List.length_map]) (by rw [List.length_map, List.length_map]; exact smallS (by omega)) hD (fun k x d H3 acc hk hd s3 hA3 Q' kk => ?_) (fun H4 rs s4 h4 hrs => ?_)⟩
    · obtain ⟨e, he, hde⟩ := DpAll_at (DpAll_mono (s1.trans s3) _ _ hA) hk
      obtain ⟨r, hr, rfl⟩ := map_at he
      rw [List.map_map] at hd
      obtain ⟨r', hr', rfl⟩ := map_at hd
      rw [hr] at hr'
      cases hr'
      obtain ⟨p, vl, vr, vsp, rfl, hT, hl, hrt, _⟩ := Dp_rule hde
      refine ⟨_, rfl, p, _, 1, _, rfl, rfl, hT, t1, _, rfl, p, _, 0, _, rfl, rfl, hT, t0, by show 2 ≤ sizeLine; decide, fun t nt => ?_⟩
      exact newT hA3 nt (tup_step (r.right, r.left)) (.cons hrt (.cons hl .nil)) kk
    · have lr : rs.length = rules.length := by rw [DpAll_len hrs, List.length_map, List.length_map]
      refine ⟨pf, D, fs, rs, rfl, rfl, s4 _ _ hpf, h4, Nat.le_of_lt (smallS (by omega)), fun q3 nq3 => ?_⟩
      refine q _ q3 _ (s1.trans (s4.trans (same_upd nq3))) ((s1.trans s4).free nq3) upd_same ?_
      unfold stepsB
      rw [List.map_append]
      exact DpAll_mono (same_upd nq3) _ _ (DpAll_app (DpAll_mono s4 _ _ hfs) hrs)
/-! ### all_come_to -/
def spCome (K : PySem.W.Frag) : Sp := fun vs H Q _ => ∃ (x y : V) (steps : List Step) (mix : Mix), vs = [x, y] ∧ Dp K H x (.list (steps.map eStep)) ∧ Dp K H y (eMix mix) ∧ steps.length ≤ 100 ∧
  ∀ H' p xs l, Same H H' → H p = none → H' p = some (.lst xs) → DpAll K H' xs (l.map eMix) → Comes steps mix l → Q (.ref p) H'
theorem ok_all_come_to (T : Tx K mg) : FnOk P w K mg base CX0 1 T.fAllComeTo T.dAllComeTo ["steps", "start"] (spCome K) := by
  refine T.oAllComeTo.F.ok scAllComeTo (fun vs H Q E h => ?_) (fun cdv A outer s H vs Q E hr h => ?_)
  · obtain ⟨x, y, steps, mix, rfl, _⟩ := h
    rfl
  · obtain ⟨x, y, steps, mix, rfl, hx, hy, h100, q⟩ := h
    obtain ⟨a, xs, rfl, hS, hA⟩ := Dp_list hx
    have len : xs.length = steps.length := by rw [DpAll_len hA, List.length_map]
    refine ⟨_, (pss_cons 
        (ps_set (i := 2) scAllComeTo.nd rfl (.inl rfl) (pe_lst (pa_cons (pv 1) pa_nil)))
      (pss_cons 
        (ps_set (i := 3) scAllComeTo.nd rfl (.inl rfl) pe_int)
      (pss_cons 
        (ps_while PassesOwn.never (pt_cmpR op_lt (pv 3) (pe_callB (clen K) (by rfl) T.len PySem.boot_len (pa_cons (pv 2) pa_nil)) (nomark _))
          (pss_cons 
            (ps_for PassesOwn.never rfl (pi_list (pv 0)) (pg_name (i := 4) scAllComeTo.nd rfl (.inl rfl))
              (pss_one 
                (ps_if (PW.pt (pw_and (pt_cmpR (eqd K (hu64 hr)) (pe_ix (ixt K) (pv 4) pe_int (fun _ _ => rfl)) (pe_ix (ixl K) (pv 2) (pv 3) (fun _ _ => rfl)) (nomark _)) (pw_and1 (pt_cmpR (notind K (hu65 hr)) (pe_ix (ixt K) (pv 4) pe_int (fun _ _ => rfl)) (pv 2) (by rfl)))))
                  (pss_one 
                    (ps_expr (pe_bm PySem.F.plainAttrs_list PySem.F.slot_list_append PySem.F.type_list_append mt_append (pv 2) (pa_cons (pe_ix (ixt K) (pv 4) pe_int (fun _ _ => rfl)) pa_nil)))) pss_nil)))
          (pss_one 
            (ps_set (i := 3) scAllComeTo.nd rfl (.inl rfl) (pe_op op_add (pv 3) pe_int)))))
      (pss_one 
        (ps_ret (pv 2)))))), ?_⟩
    refine ⟨_, rfl, by show 1 ≤ sizeLine; decide, fun pf npf => ?_⟩
    have s0 : Same H (upd H pf (.lst [y])) := same_upd npf
    refine ⟨fun m σ H' => ∃ (l : List Mix) (fs : List V) (p : Nat) (y4 : Option V), σ = [some (.ref a), some y, some (.ref pf), some (.int (p : Int)), y4] ∧ Same H H' ∧ H' pf = some (.lst fs) ∧ DpAll K H' fs (l.map eMix) ∧ Found steps mix l p ∧ m = 1 + steps.length - p,
      ⟨1 + steps.length, [mix], [y], 0, none, rfl, s0, upd_same, DpAll_one (Dp_mono s0 _ _ hy), Found.init steps mix, rfl⟩, ?_⟩
    rintro m σ H' ⟨l, fs, p, y4, rfl, sH, hpf, hfs, F, rfl⟩
    have lf : fs.length = l.length := by rw [DpAll_len hfs, List.length_map]
    have hl := F.len
    refine ⟨_, rfl, _, rfl, pf, fs, rfl, .inl (SqL.of hpf), _, _, rfl, rfl, _, rfl, ite2 (fun hc => ?_) (fun hc => ?_)⟩
    · have hc : (p : Int) < (fs.length : Int) := of_decide_eq_true hc
      have hlt : p < l.length := by omega
      refine ⟨fun σ' H'' => ∃ (l : List Mix) (fs : List V) (y4 : Option V), σ' = [some (.ref a), some y, some (.ref pf), some (.int ((p + 1 : Nat) : Int)), y4] ∧ Same H H'' ∧ H'' pf = some (.lst fs) ∧ DpAll K H'' fs (l.map eMix) ∧ Found steps mix l (p + 1), ?_, ?_⟩
      · rintro σ' H'' ⟨l2, fs2, y4, rfl, u1, u2, u3, u4⟩
        exact ⟨1 + steps.length - (p + 1), by omega, l2, fs2, p + 1, y4, rfl, u1, u2, u3, u4, rfl⟩
      refine ⟨_, rfl, a, rfl, ⟨_, Same.seq sH hS⟩, for_list (K := K) (a := a) (xs := xs) (fun k σ H2 => ∃ (l : List Mix) (fs : List V) (y4 : Option V), σ = [some (.ref a), some y, some (.ref pf), some (.int (p : Int)), y4] ∧ Same H H2 ∧ H2 pf = some (.lst fs) ∧ DpAll K H2 fs (l.map eMix) ∧ FoundK steps mix l p k)
        ⟨l, fs, y4, rfl, sH, hpf, hfs, FoundK.init F hlt⟩ (fun k σ H2 _ ⟨_, _, _, _, s5, _⟩ => Same.seq s5 hS) ?_ ?_⟩
      · clear F hfs hpf lf hl hc hlt sH
        rintro k v σ H2 hk ⟨l, fs, y4, rfl, sH, hpf, hfs, F⟩
        have lf : fs.length = l.length := by rw [DpAll_len hfs, List.length_map]
        have hl := F.base.len
        have hlt := F.lt
        obtain ⟨e, he, hde⟩ := DpAll_at (DpAll_mono sH _ _ hA) hk
        obtain ⟨st, hst, rfl⟩ := map_at he
        obtain ⟨ps, v1, v2, rfl, hT, h1, h2⟩ := Dp_step hde
        have hL : Dp K H2 (.ref pf) (.list (l.map eMix)) := .lst (SqL.of hpf) hfs
        obtain ⟨p3, ys3, u3, e3, hS3, hu3, hd3⟩ := mixes_at hL (k := p) hlt
        cases e3
        refine ⟨_, rfl, ps, _, 0, _, rfl, rfl, hT, at0, _, rfl, _, rfl, pf, ys3, _, _, rfl, rfl, hS3, hu3, eMix _, eMix _, h1, hd3, shaped_mix _, shaped_mix _, _, rfl, ite2 (fun hc => ?_) (fun hc => ?_)⟩
        · rw [eqv_mix] at hc
          have hc := of_decide_eq_true hc
          refine ⟨_, rfl, ps, _, 1, _, rfl, rfl, hT, at1, _, rfl, eMix _, l.map eMix, h2, hL, shaped_mix _, shaped_mixes _, _, rfl, ite2 (fun hc2 => ?_) (fun hc2 => ?_)⟩
          · rw [any_mix] at hc2
            have hc2 : st.2 ∉ l := by simpa using hc2
            refine ⟨_, rfl, .inl ⟨rfl, _, SqL.of hpf⟩, _, rfl, ps, _, 1, _, rfl, rfl, hT, at1, pf, fs, _, rfl, rfl, hpf, smallS (by omega), ?_⟩
            have k5 : KeepT H2 (upd H2 pf (.lst (fs ++ [v2]))) := keepT_upd (notup_lst hpf)
            refine ⟨l ++ [st.2], fs ++ [v2], _, rfl, same_mut sH npf, upd_same, ?_, F.put hst hc hc2⟩
            rw [List.map_append]
            exact DpAll_app (DpAll_tup k5 _ _ (tup_mixes _) hfs) (DpAll_one (Dp_keep k5 (tup_mix _) h2))
          · rw [any_mix] at hc2
            have hc2 : st.2 ∈ l := by simpa using hc2
            exact ⟨l, fs, _, rfl, sH, hpf, hfs, F.skip hst fun z => z.2 hc2⟩
        · rw [eqv_mix] at hc
          have hc : ¬ st.1 = l.getD p [] := fun z => hc (decide_eq_true z)
          refine ite2 (fun z => absurd z (by decide)) (fun _ => ?_)
          exact ⟨l, fs, _, rfl, sH, hpf, hfs, F.skip hst fun z => hc z.1⟩
      · rintro σ H2 ⟨l, fs, y4, rfl, sH, hpf, hfs, F⟩
        rw [len] at F
        exact ⟨_, rfl, _, _, rfl, rfl, l, fs, _, rfl, sH, hpf, hfs, F.fin⟩
    · have hc : ¬ (p : Int) < (fs.length : Int) := fun z => hc (decide_eq_true z)
      exact ⟨_, rfl, q H' pf fs l sH npf hpf hfs (F.comes (by omega))⟩
/-! ### stays -/
def spStays (K : PySem.W.Frag) : Sp := fun vs H Q _ => ∃ (x y : V) (m : Net) (i : Nat), vs = [x, y] ∧ Dp K H x (.list (m.rules.map eRule)) ∧ Dp K H y (eMix (Kp343.mixAt m i)) ∧ i < (Kp340.mixtures m).length ∧ m.rules.length ≤ 8 ∧ ∀ H', Same H H' → Q (.bl (Kp340.ending m i)) H'
theorem ok_stays (T : Tx K mg) : FnOk P w K mg base CX0 2 T.fStays T.dStays ["rules", "mixture"] (spStays K) := by
  refine T.oStays.F.ok scStays (fun vs H Q E h => ?_) (fun cdv A outer s H vs Q E hr h => ?_)
  · obtain ⟨x, y, m, i, rfl, _⟩ := h
    rfl
  · obtain ⟨x, y, m, i, rfl, hx, hy, hi, h8, q⟩ := h
    have ei := ending_iff hi
    refine ⟨_, (pss_cons 
        (ps_set (i := 2) scStays.nd rfl (.inl rfl) (pe_call (ok_steps_forwards T) (hr.mono (by decide)) (by rfl) T.oStepsForwards.g T.oStepsForwards.F.kp T.oStepsForwards.b .nil pass0 (pa_cons (pv 0) pa_nil)))
      (pss_cons 
        (ps_for PassesOwn.never rfl (pi_list (pe_call (ok_all_come_to T) (hr.mono (by decide)) (by rfl) T.oAllComeTo.g T.oAllComeTo.F.kp T.oAllComeTo.b .nil pass0 (pa_cons (pv 2) (pa_cons (pv 1) pa_nil)))) (pg_name (i := 3) scStays.nd rfl (.inl rfl))
          (pss_one 
            (ps_if (pt_cmpR (notind K (hu65 hr)) (pv 1) (pe_call (ok_all_come_to T) (hr.mono (by decide)) (by rfl) T.oAllComeTo.g T.oAllComeTo.F.kp T.oAllComeTo.b .nil pass0 (pa_cons (pv 2) (pa_cons (pv 3) pa_nil))) (by rfl))
              (pss_one 
                (ps_ret pe_bl)) pss_nil)))
      (pss_one 
        (ps_ret pe_bl)))), ?_⟩
    refine ⟨_, rfl, x, m.rules, rfl, hx, by omega, fun H1 ps ss s1 nps hps hss => ?_⟩
    have lF : (stepsF m.rules).length ≤ 100 := by
      unfold stepsF
      rw [List.length_map]
      omega
    have hst : Dp K H1 (.ref ps) (.list ((stepsF m.rules).map eStep)) := .lst (SqL.of hps) hss
    refine ⟨_, rfl, _, rfl, .ref ps, y, stepsF m.rules, _, rfl, hst, Dp_mono s1 _ _ hy, lF, fun H2 pl ls l s2 npl hpl hls hC => ?_⟩
    have ll : ls.length = l.length := by rw [DpAll_len hls, List.length_map]
    refine ⟨pl, rfl, ⟨_, SqL.of hpl⟩, for_list (K := K) (a := pl) (xs := ls) (fun k σ H' => ∃ y3, σ = [some x, some y, some (.ref ps), y3] ∧ Same H2 H' ∧ ∀ z ∈ l.take k, MPath (stepsF m.rules) z (Kp343.mixAt m i)) ⟨none, rfl, Same.refl _, fun z hz => absurd hz (by simp)⟩ (fun k σ H' _ ⟨_, _, s5, _⟩ => SqL.of (s5 _ _ hpl)) ?_ ?_⟩
    · rintro k v σ H' hk ⟨y3, rfl, sH, hall⟩
      obtain ⟨e, he, hde⟩ := DpAll_at (DpAll_mono sH _ _ hls) hk
      obtain ⟨o, ho, rfl⟩ := map_at he
      have u := s1.trans (s2.trans sH)
      refine ⟨_, rfl, _, rfl, _, rfl, .ref ps, v, stepsF m.rules, o, rfl, Dp_mono (s2.trans sH) _ _ hst, hde, lF, fun H3 p3 xs3 l3 s3 np3 hp3 hxs3 hC3 => ?_⟩
      refine ⟨eMix _, l3.map eMix, Dp_mono (u.trans s3) _ _ hy, .lst (SqL.of hp3) hxs3, shaped_mix _, shaped_mixes _, _, rfl, ite2 (fun hc => ?_) (fun hc => ?_)⟩
      · rw [any_mix] at hc
        have hc : Kp343.mixAt m i ∉ l3 := by simpa using hc
        have e : Kp340.ending m i = false := by
          rw [Bool.eq_false_iff]
          intro z
          exact hc ((hC3.1 _).mpr (ei.mp z o ((hC.1 o).mp (List.mem_of_getElem? ho))))
        have := q H3 (u.trans s3)
        rw [e] at this
        exact this
      · rw [any_mix] at hc
        have hc : Kp343.mixAt m i ∈ l3 := by simpa using hc
        refine ⟨_, rfl, sH.trans s3, fun z hz => ?_⟩
        rw [take_at ho] at hz
        rcases List.mem_append.mp hz with h | h
        · exact hall z h
        · rw [List.mem_singleton.mp h]
          exact (hC3.1 _).mp hc
    · rintro σ H' ⟨y3, rfl, sH, hall⟩
      rw [ll, List.take_length] at hall
      have e : Kp340.ending m i = true := ei.mpr fun z hz => hall z ((hC.1 z).mpr hz)
      have := q H' (s1.trans (s2.trans sH))
      rw [e] at this
      exact this
/-! ### numbers_staying -/
/-- [k for k in range(n) if t], t may make new objects -/
theorem lc_filtS {D : Addr} {n : Nat} {tt : TT} {i : Nat} {σ : L2.St} {H : Hp} {p : Nat → Bool} {Qd : Hp → Prop} (small : n < sizeLine) (hi : i < σ.length) (hD : H D = none)
    (test : ∀ (k : Nat) (H3 : Hp), k < n → Same H H3 → ∀ Q' : Bool → Hp → Prop, (∀ H4, Same H3 H4 → Q' (p k) H4) → tt ((wipe σ [i]).set i (some (.int (k : Int)))) H3 Q')
    (fin : ∀ H' xs, Same H H' → H' D = some (.lst xs) → DpAll K H' xs (eInts ((List.range n).filter p)) → Qd H') : ∃ W : Nat → Nat → Hp → Prop, (∃ m, W 0 m (upd H D (.lst []))) ∧ ∀ k m H, W k m H →
      ((Itr 0 n).stop k H ∧ Qd H) ∨ ((Itr 0 n).go k H ∧ ∃ Nx : Hp → Prop, (∀ H', Nx H' → ∃ m', m' < m ∧ W (k + 1) m' H') ∧ ∀ x H', (Itr 0 n).yld k H x H' → gName i x (wipe σ [i]) H' fun σ2 H2 => wipe σ2 [i] = wipe σ [i] ∧ tt σ2 H2 fun b H3 =>
        if b = true then tVar i σ2 H3 fun y H4 => ∃ acc, H4 D = some (.lst acc) ∧ acc.length < sizeLine ∧ Nx (upd H4 D (.lst (acc ++ [y]))) else Nx H3) := by
  refine lc_range (fun k H' => Same H H' ∧ H' D = some (.lst (((List.range k).filter p).map fun (j : Nat) => V.int (j : Int)))) ⟨same_upd hD, upd_same⟩ ?_ ?_
  · rintro k H' hk ⟨sH, hA⟩
    rw [Int.zero_add]
    refine ⟨wipe_one, test k _ hk sH _ fun H4 s4 => ?_⟩
    have er : (List.range (k + 1)).filter p = (List.range k).filter p ++ if p k = true then [k] else [] := by
      rw [List.range_succ, List.filter_append, List.filter_cons, List.filter_nil]
    refine ite2 (fun hp => ?_) (fun hp => ?_)
    · refine ⟨_, by rw [List.getElem?_set_self (by rw [wipe_length]; exact hi)], _, s4 _ _ hA, ?_, same_mut (sH.trans s4) hD, ?_⟩
      · rw [List.length_map]
        have := List.length_filter_le p (List.range k)
        rw [List.length_range] at this
        omega
      · rw [upd_same, er, if_pos hp, List.map_append]
        rfl
    · refine ⟨sH.trans s4, ?_⟩
      rw [er, if_neg hp, List.append_nil]
      exact s4 _ _ hA
  · rintro H' ⟨sH, hA⟩
    exact fin _ _ sH hA (DpNats _ _)
def spStaying (K : PySem.W.Frag) : Sp := fun vs H Q _ => ∃ (x : V) (m : Net), vs = [x] ∧ Dp K H x (.list (m.rules.map eRule)) ∧ m.rules.length ≤ 8 ∧ GivesL K H (eInts ((List.range (Kp340.mixtures m).length).filter (Kp340.ending m))) Q
theorem ok_numbers_staying (T : Tx K mg) : FnOk P w K mg base CX0 3 T.fNumbersStaying T.dNumbersStaying ["rules"] (spStaying K) := by
  refine T.oNumbersStaying.F.ok scNumbersStaying (fun vs H Q E h => ?_) (fun cdv A outer s H vs Q E hr h => ?_)
  · obtain ⟨x, m, rfl, _⟩ := h
    rfl
  · obtain ⟨x, m, rfl, hx, h8, q⟩ := h
    refine ⟨_, (pss_cons 
        (ps_set (i := 1) scNumbersStaying.nd rfl (.inr rfl) (pe_call (ok_mixtures_of T) (hr.mono (by decide)) (by rfl) T.oMixturesOf.g T.oMixturesOf.F.kp T.oMixturesOf.b .nil pass0 (pa_cons (pv 0) pa_nil)))
      (pss_one 
        (ps_ret (pe_lc (own := [("i", 2)]) (g := gName 2) rfl scNumbersStaying.nd (pi_range1 (by rfl) T.range (pa_cons (pe_callB (clen K) (by rfl) T.len PySem.boot_len (pa_cons (pv 1) pa_nil)) pa_nil)) (blkOk_by (N := NNumbersStaying) (sc := defScope sNumbersStaying) (by decide +kernel)) (fun _ _ _ _ _ => pg_name (i := 2) scNumbersStaying.nd rfl (Or.inl rfl)) (fun _ _ _ _ _ => pts_one (pt_val (pe_call (ok_stays T) (hr.mono (by decide)) (by rfl) T.oStays.g T.oStays.F.kp T.oStays.b .nil pass0 (pa_cons (pv 0) (pa_cons (pe_ix (ixl K) (pv 1) (pv 2) (fun _ _ => rfl)) pa_nil))))) (fun _ _ _ _ _ => (pv 2)))))), ?_⟩
    refine ⟨_, rfl, x, m.rules, rfl, hx, by omega, fun H1 pm ms s1 npm hpm hms => ?_⟩
    rw [mixtures_is] at hms
    have lm : ms.length = (Kp340.mixtures m).length := by rw [DpAll_len hms, List.length_map]
    have lm2 := mix_len m
    have hM : Dp K H1 (.ref pm) (.list ((Kp340.mixtures m).map eMix)) := .lst (SqL.of hpm) hms
    refine ⟨_, rfl, pm, ms, rfl, .inl (SqL.of hpm), _, rfl, (small62 (by omega)).1, (small62 (by omega)).2, fun D hD => lc_filtS (K := K) (n := ms.length) (p := Kp340.ending m) (smallS (by omega)) (by show 2 < 3; decide) hD (fun k H3 hk s3 Q' kk => ?_) (fun H4 ns s4 h4 hns => ?_)⟩
    · obtain ⟨p, ys, y, e, hSy, hy, hdy⟩ := mixes_at (Dp_mono s3 _ _ hM) (k := k) (by omega)
      cases e
      exact ⟨_, rfl, _, rfl, _, rfl, pm, ys, _, _, rfl, rfl, hSy, hy, x, y, m, k, rfl, Dp_mono (s1.trans s3) _ _ hx, hdy, by omega, h8, fun H4 s4 => ⟨_, rfl, kk H4 s4⟩⟩
    · refine q H4 D ns (s1.trans s4) (s1.free hD) h4 ?_
      rw [lm] at hns
      exact hns
end
end Sl

/-! classes_of, how_many_hidden. -/
namespace Sl
open PySem PySem.Spec PyProof.Rows L2
open Kp340 (Fr Mix Net)
section
variable {P : Program} {w : World} {K : PySem.W.Frag} {mg : Str → Option Value} {base : Heap}
/-- lists of mixtures, each at a place that was free in H -/
inductive ClsAt (K : PySem.W.Frag) (H H' : Hp) : List V → List (List Mix) → Prop
  | nil : ClsAt K H H' [] []
  | cons {p : Addr} {ys vs : List V} {l : List Mix} {ls : List (List Mix)} : H p = none → H' p = some (.lst ys) → DpAll K H' ys (l.map eMix) → ClsAt K H H' vs ls → ClsAt K H H' (.ref p :: vs) (l :: ls)
theorem ClsAt.same {H H' H2 : Hp} {vs : List V} {ls : List (List Mix)} (h : ClsAt K H H' vs ls) (s : Same H' H2) : ClsAt K H H2 vs ls := by
  induction h with
  | nil => exact .nil
  | cons a b c _ ih => exact .cons a (s _ _ b) (DpAll_mono s _ _ c) ih
theorem ClsAt.put {H H' : Hp} {vs : List V} {ls : List (List Mix)} {q : Addr} {o : HO} {xs : List V} (h : ClsAt K H H' vs ls) (hq : H q ≠ none) (hq2 : H' q = some (.lst xs)) : ClsAt K H (upd H' q o) vs ls := by
  induction h with
  | nil => exact .nil
  | cons a b c _ ih =>
    refine .cons a ?_ (DpAll_tup (keepT_upd (notup_lst hq2)) _ _ (tup_mixes _) c) ih
    exact (upd_ne (fun e => hq (by rw [← e]; exact a))).trans b
theorem ClsAt.from {H H0 H' : Hp} {vs : List V} {ls : List (List Mix)} (h : ClsAt K H H' vs ls) (s : ∀ b, H b = none → H0 b = none) : ClsAt K H0 H' vs ls := by
  induction h with
  | nil => exact .nil
  | cons a b c _ ih => exact .cons (s _ a) b c ih
theorem ClsAt.app {H H' : Hp} {vs : List V} {ls : List (List Mix)} {p : Addr} {ys : List V} {l : List Mix} (h : ClsAt K H H' vs ls) (a : H p = none) (b : H' p = some (.lst ys)) (c : DpAll K H' ys (l.map eMix)) : ClsAt K H H' (vs ++ [.ref p]) (ls ++ [l]) := by
  induction h with
  | nil => exact .cons a b c .nil
  | cons a' b' c' _ ih => exact .cons a' b' c' ih
theorem ClsAt.len {H H' : Hp} {vs : List V} {ls : List (List Mix)} (h : ClsAt K H H' vs ls) : vs.length = ls.length := by
  induction h with
  | nil => rfl
  | cons _ _ _ _ ih => rw [List.length_cons, List.length_cons, ih]
theorem ClsAt.get {H H' : Hp} {vs : List V} {ls : List (List Mix)} (h : ClsAt K H H' vs ls) : ∀ {k : Nat} {v : V}, vs[k]? = some v → ∃ p ys l, v = .ref p ∧ ls[k]? = some l ∧ H' p = some (.lst ys) ∧ DpAll K H' ys (l.map eMix) := by
  induction h with
  | nil => intro k v e; simp at e
  | cons a b c _ ih =>
    intro k v e
    cases k with
    | zero =>
      have e := (Option.some.inj e).symm
      exact ⟨_, _, _, e, rfl, b, c⟩
    | succ k => exact ih (k := k) e
def spClasses (K : PySem.W.Frag) : Sp := fun vs H Q _ => ∃ (x : V) (m : Net), vs = [x] ∧ Dp K H x (.list (m.rules.map eRule)) ∧ m.rules.length ≤ 8 ∧
  ∀ H' p xs ls, Same H H' → H p = none → H' p = some (.lst xs) → ClsAt K H H' xs ls → Classes m (repsTo m (Kp340.mixtures m).length) ls → Q (.ref p) H'
theorem ok_classes_of (T : Tx K mg) : FnOk P w K mg base CX0 3 T.fClassesOf T.dClassesOf ["rules"] (spClasses K) := by
  refine T.oClassesOf.F.ok scClassesOf (fun vs H Q E h => ?_) (fun cdv A outer s H vs Q E hr h => ?_)
  · obtain ⟨x, m, rfl, _⟩ := h
    rfl
  · obtain ⟨x, m, rfl, hx, h8, q⟩ := h
    refine ⟨_, (pss_cons 
        (ps_set (i := 1) scClassesOf.nd rfl (.inl rfl) (pe_call (ok_steps_both_ways T) (hr.mono (by decide)) (by rfl) T.oStepsBothWays.g T.oStepsBothWays.F.kp T.oStepsBothWays.b .nil pass0 (pa_cons (pv 0) pa_nil)))
      (pss_cons 
        (ps_set (i := 2) scClassesOf.nd rfl (.inl rfl) (pe_lst pa_nil))
      (pss_cons 
        (ps_set (i := 3) scClassesOf.nd rfl (.inl rfl) (pe_lst pa_nil))
      (pss_cons 
        (ps_for PassesOwn.never rfl (pi_list (pe_call (ok_mixtures_of T) (hr.mono (by decide)) (by rfl) T.oMixturesOf.g T.oMixturesOf.F.kp T.oMixturesOf.b .nil pass0 (pa_cons (pv 0) pa_nil))) (pg_name (i := 4) scClassesOf.nd rfl (.inl rfl))
          (pss_one 
            (ps_if (pt_cmpR (notind K (hu65 hr)) (pv 4) (pv 3) (by rfl))
              (pss_cons 
                (ps_set (i := 5) scClassesOf.nd rfl (.inl rfl) (pe_call (ok_all_come_to T) (hr.mono (by decide)) (by rfl) T.oAllComeTo.g T.oAllComeTo.F.kp T.oAllComeTo.b .nil pass0 (pa_cons (pv 1) (pa_cons (pv 4) pa_nil))))
              (pss_cons 
                (ps_expr (pe_bm PySem.F.plainAttrs_list PySem.F.slot_list_append PySem.F.type_list_append mt_append (pv 2) (pa_cons (pv 5) pa_nil)))
              (pss_one 
                (ps_expr (pe_bm PySem.F.plainAttrs_list PySem.F.slot_list_extend PySem.F.type_list_extend mt_extend (pv 3) (pa_cons (pv 5) pa_nil)))))) pss_nil)))
      (pss_one 
        (ps_ret (pv 2))))))), ?_⟩
    refine ⟨_, rfl, x, m.rules, rfl, hx, by omega, fun H1 ps ss s1 nps hps hss => ?_⟩
    have lB : (stepsB m.rules).length ≤ 100 := by
      unfold stepsB stepsF
      rw [List.length_append, List.length_map, List.length_map]
      omega
    have hst : Dp K H1 (.ref ps) (.list ((stepsB m.rules).map eStep)) := .lst (SqL.of hps) hss
    -- classes = []; placed = []
    refine ⟨Nat.zero_le _, fun pc npc => ?_⟩
    have s2 : Same H1 (upd H1 pc (.lst [])) := same_upd npc
    refine ⟨Nat.zero_le _, fun pp npp => ?_⟩
    have s3 : Same (upd H1 pc (.lst [])) (upd (upd H1 pc (.lst [])) pp (.lst [])) := same_upd npp
    have ncp : pc ≠ pp := ne_of_none (upd_same (H := H1) (o := .lst [])) npp
    have hpc3 : (upd (upd H1 pc (.lst [])) pp (.lst [])) pc = some (.lst []) := s3 _ _ upd_same
    have hpp3 : (upd (upd H1 pc (.lst [])) pp (.lst [])) pp = some (.lst []) := upd_same
    have npp1 : H1 pp = none := s2.free npp
    have s13 := s2.trans s3
    generalize upd (upd H1 pc (.lst [])) pp (.lst []) = H3 at *
    clear s2 s3 npp
    -- for mixture in mixtures_of(rules)
    refine ⟨_, rfl, x, m.rules, rfl, Dp_mono (s1.trans s13) _ _ hx, by omega, fun H4 pm ms s4 npm hpm hms => ?_⟩
    rw [mixtures_is] at hms
    have lm : ms.length = (Kp340.mixtures m).length := by rw [DpAll_len hms, List.length_map]
    have lm2 := mix_len m
    have nmc : pm ≠ pc := fun e => by rw [e, hpc3] at npm; cases npm
    have nmp : pm ≠ pp := fun e => by rw [e, hpp3] at npm; cases npm
    have hc3 : H3 pc ≠ none := by rw [hpc3]; intro z; cases z
    have hp3 : H3 pp ≠ none := by rw [hpp3]; intro z; cases z
    refine ⟨pm, rfl, ⟨_, SqL.of hpm⟩, for_list (K := K) (a := pm) (xs := ms) (fun k σ H' => ∃ (cs : List V) (ls : List (List Mix)) (vp : List V) (l : List Mix) (y4 y5 : Option V), σ = [some x, some (.ref ps), some (.ref pc), some (.ref pp), y4, y5] ∧ Same H1 H' ∧ (∀ b, H' b = none → H3 b = none) ∧ H' pm = some (.lst ms) ∧ DpAll K H' ms ((Kp340.mixtures m).map eMix) ∧ H' pc = some (.lst cs) ∧ ClsAt K H3 H' cs ls ∧ Classes m (repsTo m k) ls ∧ H' pp = some (.lst vp) ∧ DpAll K H' vp (l.map eMix) ∧ Placed m k l)
      ⟨[], [], [], [], none, none, rfl, s13.trans s4, fun b hb => s4.free hb, hpm, hms, s4 _ _ hpc3, .nil, .nil, s4 _ _ hpp3, .nil, placed_zero m⟩ (fun k σ H' _ ⟨_, _, _, _, _, _, _, _, _, h, _⟩ => SqL.of h) ?_ ?_⟩
    · rintro k v σ H' hk ⟨cs, ls, vp, l, y4, y5, rfl, sH, dom, hpm', hms', hpc', hcs, hC, hpp', hvp, hP⟩
      obtain ⟨e, he, hde⟩ := DpAll_at hms' hk
      obtain ⟨mx, hmx, rfl⟩ := map_at he
      have hkl : k < (Kp340.mixtures m).length := (List.getElem?_eq_some_iff.mp hmx).1
      have emx : Kp343.mixAt m k = mx := at_getD [] hmx
      rw [← emx] at hde
      have lcs : cs.length ≤ k := by
        rw [hcs.len, hC.len]
        unfold repsTo
        have := List.length_filter_le (fun c => Kp340.classOf m c == c) (List.range k)
        rw [List.length_range] at this
        exact this
      have lvp : vp.length ≤ 17 * k := by
        rw [DpAll_len hvp, List.length_map]
        exact hP.2
      refine ⟨_, rfl, _, rfl, eMix _, l.map eMix, hde, .lst (SqL.of hpp') hvp, shaped_mix _, shaped_mixes _, _, rfl, ite2 (fun hc => ?_) (fun hc => ?_)⟩
      · rw [any_mix] at hc
        have hc : Kp343.mixAt m k ∉ l := by simpa using hc
        have hck : Kp340.classOf m k = k := Classical.byContradiction fun z => hc ((placed_at hkl hP).mpr z)
        -- members = all_come_to(steps, mixture)
        refine ⟨_, rfl, _, rfl, .ref ps, v, stepsB m.rules, _, rfl, Dp_mono sH _ _ hst, hde, lB, fun H5 pq qs lq s5 npq hpq hqs hCo => ?_⟩
        have hIs := comes_class h8 hkl hck hCo
        have lq17 : qs.length ≤ 17 := by
          rw [DpAll_len hqs, List.length_map]
          exact hIs.2
        obtain ⟨hP2, hR2⟩ := placed_put hkl hP hck hIs
        have nqc : pq ≠ pc := fun e => by rw [e, hpc'] at npq; cases npq
        have nqp : pq ≠ pp := fun e => by rw [e, hpp'] at npq; cases npq
        have hpc5 := s5 _ _ hpc'
        have hpp5 := s5 _ _ hpp'
        -- classes.append(members)
        refine ⟨_, rfl, .inl ⟨rfl, _, SqL.of hpc5⟩, _, rfl, pc, cs, _, rfl, rfl, hpc5, smallS (by omega), ?_⟩
        have k6 : KeepT H5 (upd H5 pc (.lst (cs ++ [.ref pq]))) := keepT_upd (notup_lst hpc5)
        have hcs6 : ClsAt K H3 (upd H5 pc (.lst (cs ++ [.ref pq]))) (cs ++ [.ref pq]) (ls ++ [lq]) := ((hcs.same s5).app (dom _ npq) hpq hqs).put hc3 hpc5
        have sH6 : Same H1 (upd H5 pc (.lst (cs ++ [.ref pq]))) := same_mut (sH.trans s5) npc
        have dom6 : ∀ b, (upd H5 pc (.lst (cs ++ [.ref pq]))) b = none → H3 b = none := fun b hb => by
          have : b ≠ pc := fun e => by rw [e, upd_same] at hb; cases hb
          rw [upd_ne this] at hb
          exact dom b (s5.free hb)
        have hpm6 : (upd H5 pc (.lst (cs ++ [.ref pq]))) pm = some (.lst ms) := by rw [upd_ne nmc]; exact s5 _ _ hpm'
        have hms6 := DpAll_tup k6 _ _ (tup_mixes _) (DpAll_mono s5 _ _ hms')
        have hpc6 : (upd H5 pc (.lst (cs ++ [.ref pq]))) pc = some (.lst (cs ++ [.ref pq])) := upd_same
        have hpp6 : (upd H5 pc (.lst (cs ++ [.ref pq]))) pp = some (.lst vp) := by rw [upd_ne (fun e => ncp e.symm)]; exact hpp5
        have hvp6 := DpAll_tup k6 _ _ (tup_mixes _) (DpAll_mono s5 _ _ hvp)
        have hpq6 : (upd H5 pc (.lst (cs ++ [.ref pq]))) pq = some (.lst qs) := by rw [upd_ne nqc]; exact hpq
        have hqs6 := DpAll_tup k6 _ _ (tup_mixes _) hqs
        generalize upd H5 pc (.lst (cs ++ [.ref pq])) = H6 at *
        -- placed.extend(members)
        refine ⟨_, rfl, .inl ⟨rfl, _, SqL.of hpp6⟩, _, rfl, pp, pq, vp, qs, rfl, rfl, hpp6, hpq6, Nat.le_of_lt (smallS (by omega)), ?_⟩
        have k7 : KeepT H6 (upd H6 pp (.lst (vp ++ qs))) := keepT_upd (notup_lst hpp6)
        refine ⟨cs ++ [.ref pq], ls ++ [lq], vp ++ qs, l ++ lq, _, _, rfl, same_mut sH6 npp1, fun b hb => ?_, by rw [upd_ne nmp]; exact hpm6, DpAll_tup k7 _ _ (tup_mixes _) hms6, by rw [upd_ne ncp]; exact hpc6, hcs6.put hp3 hpp6, ?_, upd_same, ?_, hP2⟩
        · have : b ≠ pp := fun e => by rw [e, upd_same] at hb; cases hb
          rw [upd_ne this] at hb
          exact dom6 b hb
        · rw [hR2]
          exact hC.app hIs
        · rw [List.map_append]
          exact DpAll_app (DpAll_tup k7 _ _ (tup_mixes _) hvp6) (DpAll_tup k7 _ _ (tup_mixes _) hqs6)
      · rw [any_mix] at hc
        have hc : Kp343.mixAt m k ∈ l := by simpa using hc
        obtain ⟨hP2, hR2⟩ := placed_skip hkl hP ((placed_at hkl hP).mp hc)
        refine ⟨cs, ls, vp, l, _, _, rfl, sH, dom, hpm', hms', hpc', hcs, ?_, hpp', hvp, hP2⟩
        rw [hR2]
        exact hC
    · rintro σ H' ⟨cs, ls, vp, l, y4, y5, rfl, sH, dom, hpm', hms', hpc', hcs, hC, hpp', hvp, hP⟩
      rw [lm] at hC
      exact ⟨_, rfl, q H' pc cs ls (s1.trans sH) (s1.free npc) hpc' (hcs.from fun b hb => (s1.trans s13).free hb) hC⟩
/-! ### how_many_hidden -/
def spHidden (K : PySem.W.Frag) : Sp := fun vs H Q _ => ∃ (x : V) (m : Net), vs = [x, .int (m.n : Int)] ∧ Dp K H x (.list (m.rules.map eRule)) ∧ NetOk m ∧ ∀ H', Same H H' → Q (.int ((Kp342.hidden m).length : Int)) H'
theorem conds_fine {m : Net} (h : NetOk m) : Fine (Kp340.mixtures m).length (Kp342.conds m) := fun c hc => by
  obtain ⟨b1, b2⟩ := conds_B h c hc
  have e := fold_is (conds_good m) c hc
  unfold relAt
  rw [e]
  refine ⟨fun r hr => ?_, fun r hr => (b2 r hr).mono (by decide)⟩
  obtain ⟨x, hx, rfl⟩ := List.mem_map.mp hr
  exact (b1 x hx).mono (by decide)
theorem condsTo_sub (m : Net) (s : Nat) : condsTo m (s + 1) [] = condsTo m s [] ++ [subRow m s] := by
  unfold condsTo
  rw [List.range_succ, List.map_append]
  simp
theorem condsTo_cls (m : Net) (s : Nat) (cs : List Nat) (c : Nat) : condsTo m s (cs ++ [c]) = condsTo m s cs ++ [clsRow m c] := by
  unfold condsTo
  rw [List.map_append, List.append_assoc]
  rfl
theorem condsTo_len (m : Net) (s : Nat) (cs : List Nat) : (condsTo m s cs).length = s + cs.length := by
  unfold condsTo
  rw [List.length_append, List.length_map, List.length_map, List.length_range]
theorem Classes.get {m : Net} {cs : List Nat} {ls : List (List Mix)} (h : Classes m cs ls) : ∀ {k : Nat} {l : List Mix}, ls[k]? = some l → ∃ c, cs[k]? = some c ∧ IsClass m c l := by
  induction h with
  | nil => intro k l e; simp at e
  | cons a _ ih =>
    intro k l e
    cases k with
    | zero =>
      have e := Option.some.inj e
      subst e
      exact ⟨_, rfl, a⟩
    | succ k => exact ih (k := k) e
theorem ok_how_many_hidden (T : Tx K mg) : FnOk P w K mg base CX0 6 T.fHowManyHidden T.dHowManyHidden ["rules", "substances"] (spHidden K) := by
  refine T.oHowManyHidden.F.ok scHowManyHidden (fun vs H Q E h => ?_) (fun cdv A outer s H vs Q E hr h => ?_)
  · obtain ⟨x, m, rfl, _⟩ := h
    rfl
  · obtain ⟨x, m, rfl, hx, hm, q⟩ := h
    have h8 := hm.few
    have hn := hm.n
    have l16 := mixes16 hm
    refine ⟨_, (pss_cons 
        (ps_set (i := 2) scHowManyHidden.nd rfl (.inl rfl) (pe_call (ok_mixtures_of T) (hr.mono (by decide)) (by rfl) T.oMixturesOf.g T.oMixturesOf.F.kp T.oMixturesOf.b .nil pass0 (pa_cons (pv 0) pa_nil)))
      (pss_cons 
        (ps_set (i := 3) scHowManyHidden.nd rfl (.inl rfl) (pe_lst pa_nil))
      (pss_cons 
        (ps_for PassesOwn.never rfl (pi_range1 (by rfl) T.range (pa_cons (pv 1) pa_nil)) (pg_name (i := 4) scHowManyHidden.nd rfl (.inr rfl))
          (pss_one 
            (ps_expr (pe_bm PySem.F.plainAttrs_list PySem.F.slot_list_append PySem.F.type_list_append mt_append (pv 3) (pa_cons (pe_lc (own := [("mixture", 6)]) (g := gName 6) (tt := tYes) rfl scHowManyHidden.nd (pi_list (pv 2)) (blkOk_by (N := NHowManyHidden) (sc := defScope sHowManyHidden) (by decide +kernel)) (fun _ _ _ _ _ => pg_name (i := 6) scHowManyHidden.nd rfl (Or.inl rfl)) (fun _ _ _ _ _ => pts_nil) (fun _ _ _ _ _ => (pe_tup (pa_cons (pe_ix (ixt K) (pv 6) (pv 4) (fun _ _ => rfl)) (pa_cons pe_int pa_nil))))) pa_nil)))))
      (pss_cons 
        (ps_for PassesOwn.never rfl (pi_list (pe_call (ok_classes_of T) (hr.mono (by decide)) (by rfl) T.oClassesOf.g T.oClassesOf.F.kp T.oClassesOf.b .nil pass0 (pa_cons (pv 0) pa_nil))) (pg_name (i := 5) scHowManyHidden.nd rfl (.inr rfl))
          (pss_one 
            (ps_expr (pe_bm PySem.F.plainAttrs_list PySem.F.slot_list_append PySem.F.type_list_append mt_append (pv 3) (pa_cons (pe_lc (own := [("mixture", 6)]) (g := gName 6) (tt := tYes) rfl scHowManyHidden.nd (pi_list (pv 2)) (blkOk_by (N := NHowManyHidden) (sc := defScope sHowManyHidden) (by decide +kernel)) (fun _ _ _ _ _ => pg_name (i := 6) scHowManyHidden.nd rfl (Or.inl rfl)) (fun _ _ _ _ _ => pts_nil) (fun _ _ _ _ _ => (pe_ifExp (pt_cmpR (ind K (hu65 hr)) (pv 6) (pv 5) (by rfl)) (pe_gr T.gONE) (pe_gr T.gZERO)))) pa_nil)))))
      (pss_one 
        (ps_ret (pe_op op_sub (pe_callB (clen K) (by rfl) T.len PySem.boot_len (pa_cons (pv 2) pa_nil)) (pe_callB (clen K) (by rfl) T.len PySem.boot_len (pa_cons (pe_call (ok_relations_among T) (hr.mono (by decide)) (by rfl) T.oRelationsAmong.g T.oRelationsAmong.F.kp T.oRelationsAmong.b .nil pass0 (pa_cons (pv 3) (pa_cons (pe_callB (clen K) (by rfl) T.len PySem.boot_len (pa_cons (pv 2) pa_nil)) pa_nil))) pa_nil))))))))), ?_⟩
    refine ⟨_, rfl, x, m.rules, rfl, hx, by omega, fun H1 pm ms s1 npm hpm hms => ?_⟩
    rw [mixtures_is] at hms
    have lm : ms.length = (Kp340.mixtures m).length := by rw [DpAll_len hms, List.length_map]
    refine ⟨Nat.zero_le _, fun pr npr => ?_⟩
    have s2 : Same H1 (upd H1 pr (.lst [])) := same_upd npr
    -- for s in range(substances)
    refine ⟨_, rfl, _, rfl, (small62 (by omega)).1, (small62 (by omega)).2, for_range (n := m.n) (fun k σ H' => ∃ y4 vs, σ = [some x, some (.int (m.n : Int)), some (.ref pm), some (.ref pr), y4, none, none] ∧ Same H1 H' ∧ H' pr = some (.lst vs) ∧ DpAll K (hide H' pr) vs ((condsTo m k []).map eRow))
      ⟨none, [], rfl, s2, upd_same, .nil⟩ ?_ ?_⟩
    · rintro k σ H' hk ⟨y4, vs, rfl, sH, hpr', hvs⟩
      rw [Int.zero_add]
      have hpm' := sH _ _ hpm
      have hms' := DpAll_mono sH _ _ hms
      have lvs : vs.length = k := by
        rw [DpAll_len hvs, List.length_map, condsTo_len]
        rfl
      refine ⟨_, rfl, .inl ⟨rfl, _, SqL.of hpr'⟩, ?_⟩
      refine ⟨_, rfl, pm, rfl, ⟨_, SqL.of hpm'⟩, fun D hD => lc_map (ds := (subRow m k).map eF) (SqL.of hpm') (by unfold subRow; rw [lm, List.length_map, List.length_map]) (by unfold subRow; rw [List.length_map, List.length_map]; exact smallS (by omega)) hD (fun j v d H3 acc hj hd s3 hA3 Q' kk => ?_) (fun H4 rs s4 h4 hrs => ?_)⟩
      · obtain ⟨e, he, hde⟩ := DpAll_at (DpAll_mono s3 _ _ hms') hj
        obtain ⟨mx, hmx, rfl⟩ := map_at he
        unfold subRow at hd
        rw [List.map_map] at hd
        obtain ⟨mx', hmx', rfl⟩ := map_at hd
        rw [hmx] at hmx'
        cases hmx'
        have lmx : mx.length = m.n := by
          have := mixAt_len hm (i := j) (List.getElem?_eq_some_iff.mp hmx).1
          rw [show Kp343.mixAt m j = mx from at_getD [] hmx] at this
          exact this
        obtain ⟨p2, ys2, rfl, hS2, ht2⟩ := mix_at hde (s := k) (by omega)
        refine ⟨_, rfl, _, rfl, p2, ys2, _, _, rfl, rfl, hS2, ht2, by show 2 ≤ sizeLine; decide, fun t nt => ?_⟩
        exact newT hA3 nt rfl (DpInts [((mx.getD k 0 : Nat) : Int), 1]) kk
      · have nDr : D ≠ pr := fun e => by rw [e, hpr'] at hD; cases hD
        have hpr4 := s4 _ _ hpr'
        refine ⟨pr, vs, _, rfl, rfl, hpr4, smallS (by omega), ?_⟩
        refine ⟨_, vs ++ [.ref D], rfl, same_mut (sH.trans s4) npr, upd_same, ?_⟩
        rw [hide_upd, condsTo_sub, List.map_append]
        refine DpAll_app (DpAll_mono (hide_same s4 pr) _ _ hvs) (DpAll_one ?_)
        exact .lst (SqL.of (by rw [hide_ne nDr]; exact h4)) (DpAll_keepF (keepT_hide (notup_lst hpr4)) hrs)
    · rintro σ H3 ⟨y4, vs, rfl, sH3, hpr3, hvs3⟩
      -- for members in classes_of(rules)
      refine ⟨_, rfl, x, m, rfl, Dp_mono (s1.trans sH3) _ _ hx, h8, fun H4 pl xl ls s4 npl hpl hxl hC => ?_⟩
      have nlr : pl ≠ pr := fun e => by rw [e, hpr3] at npl; cases npl
      have hr3 : H3 pr ≠ none := by rw [hpr3]; intro z; cases z
      have hpr4 := s4 _ _ hpr3
      have lxl : xl.length = (repsTo m (Kp340.mixtures m).length).length := by rw [hxl.len, hC.len]
      have lreps : (repsTo m (Kp340.mixtures m).length).length ≤ 16 := by
        unfold repsTo
        have := List.length_filter_le (fun c => Kp340.classOf m c == c) (List.range (Kp340.mixtures m).length)
        rw [List.length_range] at this
        omega
      refine ⟨pl, rfl, ⟨_, SqL.of hpl⟩, for_list (K := K) (a := pl) (xs := xl) (fun k σ H' => ∃ y5 vs, σ = [some x, some (.int (m.n : Int)), some (.ref pm), some (.ref pr), y4, y5, none] ∧ Same H1 H' ∧ H' pl = some (.lst xl) ∧ ClsAt K H3 H' xl ls ∧ H' pr = some (.lst vs) ∧ DpAll K (hide H' pr) vs ((condsTo m m.n ((repsTo m (Kp340.mixtures m).length).take k)).map eRow))
        ⟨none, vs, rfl, sH3.trans s4, hpl, hxl, hpr4, DpAll_mono (hide_same s4 pr) _ _ hvs3⟩ (fun k σ H' _ ⟨_, _, _, _, h, _⟩ => SqL.of h) ?_ ?_⟩
      · rintro k v σ H' hk ⟨y5, vs, rfl, sH, hpl', hxl', hpr', hvs⟩
        obtain ⟨p, ys, l, rfl, hl, hp, hys⟩ := hxl'.get hk
        obtain ⟨c, hc, hIs⟩ := hC.get hl
        have hpm' := sH _ _ hpm
        have hms' := DpAll_mono sH _ _ hms
        have lvs : vs.length ≤ m.n + k := by
          rw [DpAll_len hvs, List.length_map, condsTo_len, List.length_take]
          omega
        have hkl : k < (repsTo m (Kp340.mixtures m).length).length := (List.getElem?_eq_some_iff.mp hc).1
        have hL : Dp K H' (.ref p) (.list (l.map eMix)) := .lst (SqL.of hp) hys
        refine ⟨_, rfl, .inl ⟨rfl, _, SqL.of hpr'⟩, ?_⟩
        refine ⟨_, rfl, pm, rfl, ⟨_, SqL.of hpm'⟩, fun D hD => lc_map (ds := (clsRow m c).map eF) (SqL.of hpm') (by unfold clsRow; rw [lm, List.length_map, List.length_map, List.length_range]) (by unfold clsRow; rw [List.length_map, List.length_map, List.length_range]; exact smallS (by omega)) hD (fun j v d H5 acc hj hd s5 hA5 Q' kk => ?_) (fun H6 rs s6 h6 hrs => ?_)⟩
        · obtain ⟨e, he, hde⟩ := DpAll_at (DpAll_mono s5 _ _ hms') hj
          obtain ⟨mx, hmx, rfl⟩ := map_at he
          have hjl : j < (Kp340.mixtures m).length := (List.getElem?_eq_some_iff.mp hmx).1
          have emx : Kp343.mixAt m j = mx := at_getD [] hmx
          unfold clsRow at hd
          rw [List.map_map, List.getElem?_map, List.getElem?_range hjl] at hd
          have hd := (Option.some.inj hd).symm
          subst hd
          have hIj := hIs.1 j hjl
          rw [emx] at hIj
          refine ⟨_, rfl, _, rfl, eMix mx, l.map eMix, hde, Dp_mono s5 _ _ hL, shaped_mix _, shaped_mixes _, _, rfl, ite2 (fun hin => ?_) (fun hin => ?_)⟩
          · rw [any_mix] at hin
            have hin : mx ∈ l := by simpa using hin
            refine kk _ _ (Same.refl _) ?_
            show Dp K _ _ (eF (if Kp340.classOf m j = c then (1, 1) else (0, 1)))
            rw [if_pos (hIj.mp hin)]
            exact oneD T _
          · rw [any_mix] at hin
            have hin : mx ∉ l := by simpa using hin
            refine kk _ _ (Same.refl _) ?_
            show Dp K _ _ (eF (if Kp340.classOf m j = c then (1, 1) else (0, 1)))
            rw [if_neg fun z => hin (hIj.mpr z)]
            exact zeroD T _
        · have nDr : D ≠ pr := fun e => by rw [e, hpr'] at hD; cases hD
          have hpr6 := s6 _ _ hpr'
          refine ⟨pr, vs, _, rfl, rfl, hpr6, smallS (by omega), ?_⟩
          refine ⟨_, vs ++ [.ref D], rfl, same_mut (sH.trans s6) npr, by rw [upd_ne nlr]; exact s6 _ _ hpl', (hxl'.same s6).put hr3 hpr6, upd_same, ?_⟩
          rw [hide_upd, take_at hc, condsTo_cls, List.map_append]
          refine DpAll_app (DpAll_mono (hide_same s6 pr) _ _ hvs) (DpAll_one ?_)
          exact .lst (SqL.of (by rw [hide_ne nDr]; exact h6)) (DpAll_keepF (keepT_hide (notup_lst hpr6)) hrs)
      · rintro σ H' ⟨y5, vs, rfl, sH, hpl', hxl', hpr', hvs⟩
        rw [lxl, List.take_length, ← conds_is] at hvs
        have hpm' := sH _ _ hpm
        have lc : (Kp342.conds m).length ≤ 900 := by
          rw [conds_is, condsTo_len]
          omega
        refine ⟨_, rfl, pm, ms, rfl, .inl (SqL.of hpm'), _, rfl, _, rfl, pm, ms, rfl, .inl (SqL.of hpm'), .ref pr, Kp342.conds m, ms.length, rfl, .lst (SqL.of hpr') (DpAll_mono (hide_sub _ _) _ _ hvs), by rw [lm]; exact conds_good m, by rw [lm]; exact conds_fine hm, by omega, lc, fun H5 p5 xs5 s5 n5 h5 hx5 => ?_⟩
        refine ⟨p5, xs5, rfl, .inl (SqL.of h5), _, _, rfl, rfl, ?_⟩
        have := q H5 (s1.trans (sH.trans s5))
        rw [hidden_is] at this
        rw [lm, DpAll_len hx5, List.length_map, lm]
        exact this
end
end Sl

/-! more_of, pairs_of, substances_paired. -/
namespace Sl
open PySem PySem.Spec PyProof.Rows L2
open Kp340 (Fr Mix Net)
abbrev Pair3 := Nat × Nat × Nat
def ePair (x : Pair3) : PyData := .tuple [.int (x.1 : Int), .int (x.2.1 : Int), .int (x.2.2 : Int)]
theorem tup_pairs : ∀ l : List Pair3, tupAll (l.map ePair) = true
  | [] => rfl
  | _ :: l => tup_pairs l
section
variable {P : Program} {w : World} {K : PySem.W.Frag} {mg : Str → Option Value} {base : Heap}
theorem Dp_pair {H : Hp} {v : V} {x : Pair3} (h : Dp K H v (ePair x)) : ∃ p, v = .ref p ∧ SqT K H p [.int (x.1 : Int), .int (x.2.1 : Int), .int (x.2.2 : Int)] := by
  obtain ⟨p, xs, rfl, a, b⟩ := Dp_tuple h
  refine ⟨p, rfl, ?_⟩
  have := ints_of (ns := [(x.1 : Int), (x.2.1 : Int), (x.2.2 : Int)]) b
  rw [this] at a
  exact a
/-! ### more_of -/
def spMoreOf (K : PySem.W.Frag) : Sp := fun vs H Q _ => ∃ (x y : V) (a b : Mix), vs = [x, y] ∧ Dp K H x (eMix a) ∧ Dp K H y (eMix b) ∧ a.length = b.length ∧ a.length ≤ 1000 ∧ Q (oI (moreOf a b)) H
theorem ok_more_of (T : Tx K mg) : FnOk P w K mg base CX0 2 T.fMoreOf T.dMoreOf ["first", "other"] (spMoreOf K) := by
  refine T.oMoreOf.F.ok scMoreOf (fun vs H Q E h => ?_) (fun cdv A outer s H vs Q E hr h => ?_)
  · obtain ⟨x, y, a, b, rfl, _⟩ := h
    rfl
  · obtain ⟨x, y, a, b, rfl, hx, hy, hab, hl, q⟩ := h
    obtain ⟨px, xs, rfl, hSx, hAx⟩ := Dp_tuple hx
    have len : xs.length = a.length := by rw [DpAll_len hAx, List.length_map]
    refine ⟨_, (pss_cons 
        (ps_for PassesOwn.never rfl (pi_range1 (by rfl) T.range (pa_cons (pe_callB (clen K) (by rfl) T.len PySem.boot_len (pa_cons (pv 0) pa_nil)) pa_nil)) (pg_name (i := 2) scMoreOf.nd rfl (.inl rfl))
          (pss_one 
            (ps_if (pt_cmpR op_gt (pe_call (ok_more_by T) (hr.mono (by decide)) (by rfl) T.oMoreBy.g T.oMoreBy.F.kp T.oMoreBy.b .nil pass0 (pa_cons (pv 0) (pa_cons (pv 1) (pa_cons (pv 2) pa_nil)))) pe_int (nomark _))
              (pss_one 
                (ps_ret (pv 2))) pss_nil)))
      (pss_one 
        (ps_ret pe_non))), ?_⟩
    refine ⟨_, rfl, px, xs, rfl, .inr hSx, _, rfl, (small62 (by omega)).1, (small62 (by omega)).2, for_range (n := xs.length) (fun i σ H' => ∃ y2, σ = [some (.ref px), some y, y2] ∧ H' = H ∧ ∀ j, j < i → ¬ 0 < moreBy a b j) ⟨none, rfl, rfl, fun j hj => absurd hj (Nat.not_lt_zero j)⟩ ?_ ?_⟩
    · rintro i σ H' hi ⟨y2, rfl, rfl, hn⟩
      rw [Int.zero_add]
      refine ⟨_, rfl, _, rfl, _, rfl, .ref px, y, a, b, i, rfl, hx, hy, hab, by omega, hl, _, _, rfl, rfl, _, rfl, ite2 (fun hc => ?_) (fun hc => ?_)⟩
      · have hc : (0 : Int) < moreBy a b i := of_decide_eq_true hc
        have e : moreOf a b = some i := find_range (by omega) (decide_eq_true hc) fun j hj => decide_eq_false (hn j hj)
        rw [e] at q
        exact ⟨_, rfl, q⟩
      · have hc : ¬ (0 : Int) < moreBy a b i := fun z => hc (decide_eq_true z)
        refine ⟨_, rfl, rfl, fun j hj => ?_⟩
        by_cases z : j = i
        · subst z; exact hc
        · exact hn j (by omega)
    · rintro σ H' ⟨y2, rfl, rfl, hn⟩
      have e : moreOf a b = none := by
        unfold moreOf
        refine List.find?_eq_none.mpr fun j hj => ?_
        rw [decide_eq_true_eq]
        exact hn j (by rw [len]; exact List.mem_range.mp hj)
      rw [e] at q
      exact q
/-! ### pairs_of -/
def spPairs (K : PySem.W.Frag) : Sp := fun vs H Q _ => ∃ (x : V) (m : Net), vs = [x, .int (m.n : Int)] ∧ Dp K H x (.list (m.rules.map eRule)) ∧ NetOk m ∧ GivesL K H ((Kp343.pairsOf m).map ePair) Q
theorem pairsP_succ {m : Net} {is : List Nat} {k i : Nat} (h : is[k]? = some i) : pairsP m (is.take (k + 1)) = pairsP m (is.take k) ++ pairRow m i (leavingP m) := by
  unfold pairsP
  rw [take_at h, List.flatMap_append, List.flatMap_cons, List.flatMap_nil, List.append_nil]
theorem pairRow_succ {m : Net} {i : Nat} {js : List Nat} {k j : Nat} (h : js[k]? = some j) : pairRow m i (js.take (k + 1)) = pairRow m i (js.take k) ++ (match moreOf (Kp343.mixAt m i) (Kp343.mixAt m j) with
    | none => []
    | some s => [(s, i, j)]) := by
  unfold pairRow
  rw [take_at h, List.filterMap_append]
  refine congrArg (_ ++ ·) ?_
  rw [List.filterMap_cons]
  cases moreOf (Kp343.mixAt m i) (Kp343.mixAt m j) <;> rfl
theorem ok_pairs_of (T : Tx K mg) : FnOk P w K mg base CX0 7 T.fPairsOf T.dPairsOf ["rules", "substances"] (spPairs K) := by
  refine T.oPairsOf.F.ok scPairsOf (fun vs H Q E h => ?_) (fun cdv A outer s H vs Q E hr h => ?_)
  · obtain ⟨x, m, rfl, _⟩ := h
    rfl
  · obtain ⟨x, m, rfl, hx, hm, q⟩ := h
    have h8 := hm.few
    have hn := hm.n
    have l16 := mixes16 hm
    refine ⟨_, (pss_cons 
        (ps_if (pt_cmpR op_ne (pe_call (ok_how_many_hidden T) (hr.mono (by decide)) (by rfl) T.oHowManyHidden.g T.oHowManyHidden.F.kp T.oHowManyHidden.b .nil pass0 (pa_cons (pv 0) (pa_cons (pv 1) pa_nil))) pe_int (nomark _))
          (pss_one 
            (ps_ret (pe_lst pa_nil))) pss_nil)
      (pss_cons 
        (ps_set (i := 2) scPairsOf.nd rfl (.inl rfl) (pe_call (ok_mixtures_of T) (hr.mono (by decide)) (by rfl) T.oMixturesOf.g T.oMixturesOf.F.kp T.oMixturesOf.b .nil pass0 (pa_cons (pv 0) pa_nil)))
      (pss_cons 
        (ps_set (i := 3) scPairsOf.nd rfl (.inr rfl) (pe_call (ok_numbers_staying T) (hr.mono (by decide)) (by rfl) T.oNumbersStaying.g T.oNumbersStaying.F.kp T.oNumbersStaying.b .nil pass0 (pa_cons (pv 0) pa_nil)))
      (pss_cons 
        (ps_setLc (i := 4) (own := [("i", 6)]) (g := gName 6) rfl scPairsOf.nd rfl rfl (sw_true rfl rfl rfl (by decide +kernel)) (pi_range1 (by rfl) T.range (pa_cons (pe_callB (clen K) (by rfl) T.len PySem.boot_len (pa_cons (pv 2) pa_nil)) pa_nil)) (blkOk_by (N := NPairsOf) (sc := defScope sPairsOf) (by decide +kernel)) (fun _ _ _ _ _ => pg_name (i := 6) scPairsOf.nd rfl (Or.inl rfl)) (fun _ _ _ _ _ => pts_one (pt_cmpR (notinseq K) (pv 6) (pv 3) (by rfl))) (fun _ _ _ _ _ => (pv 6)))
      (pss_cons 
        (ps_set (i := 5) scPairsOf.nd rfl (.inl rfl) (pe_lst pa_nil))
      (pss_cons 
        (ps_for PassesOwn.never rfl (pi_list (pv 4)) (pg_name (i := 6) scPairsOf.nd rfl (.inl rfl))
          (pss_one 
            (ps_for PassesOwn.never rfl (pi_list (pv 4)) (pg_name (i := 7) scPairsOf.nd rfl (.inl rfl))
              (pss_cons 
                (ps_set (i := 8) scPairsOf.nd rfl (.inl rfl) (pe_call (ok_more_of T) (hr.mono (by decide)) (by rfl) T.oMoreOf.g T.oMoreOf.F.kp T.oMoreOf.b .nil pass0 (pa_cons (pe_ix (ixl K) (pv 2) (pv 6) (fun _ _ => rfl)) (pa_cons (pe_ix (ixl K) (pv 2) (pv 7) (fun _ _ => rfl)) pa_nil))))
              (pss_one 
                (ps_if (pt_cmpR op_notN (pv 8) pe_non (nomark _))
                  (pss_one 
                    (ps_expr (pe_bm PySem.F.plainAttrs_list PySem.F.slot_list_append PySem.F.type_list_append mt_append (pv 5) (pa_cons (pe_tup (pa_cons (pv 8) (pa_cons (pv 6) (pa_cons (pv 7) pa_nil)))) pa_nil)))) pss_nil))))))
      (pss_one 
        (ps_ret (pv 5))))))))), ?_⟩
    refine ⟨_, rfl, _, rfl, x, m, rfl, hx, hm, fun H1 s1 => ⟨rfl, _, rfl, ite2 (fun hc => ?_) (fun hc => ?_)⟩⟩
    · have hc : (Kp342.hidden m).length ≠ 1 := fun z => by
        rw [z] at hc
        exact absurd hc (by decide)
      rw [pairs_no hc] at q
      exact ⟨Nat.zero_le _, fun p np => q _ p [] (s1.trans (same_upd np)) (s1.free np) upd_same .nil⟩
    · have hc : (Kp342.hidden m).length = 1 := by
        rcases Decidable.em ((Kp342.hidden m).length = 1) with z | z
        · exact z
        · exact absurd (by rw [decide_eq_false (fun y => z (by have := V.int.inj y; omega))]; rfl) hc
      rw [pairs_is hm hc] at q
      -- mixtures, staying
      refine ⟨_, rfl, x, m.rules, rfl, Dp_mono s1 _ _ hx, by omega, fun H2 pm ms s2 npm hpm hms => ?_⟩
      rw [mixtures_is] at hms
      have lm : ms.length = (Kp340.mixtures m).length := by rw [DpAll_len hms, List.length_map]
      refine ⟨_, rfl, x, m, rfl, Dp_mono (s1.trans s2) _ _ hx, h8, fun H3 pn ns s3 npn hpn hns => ?_⟩
      have ens := eInts_is hns
      subst ens
      have hpm3 := s3 _ _ hpm
      -- leaving
      refine ⟨_, rfl, pm, ms, rfl, .inl (SqL.of hpm3), _, rfl, (small62 (by omega)).1, (small62 (by omega)).2, fun D hD => lc_filtS (K := K) (n := ms.length) (p := fun i => !((List.range (Kp340.mixtures m).length).filter (Kp340.ending m)).contains i) (smallS (by omega)) (by show 6 < 9; decide) hD (fun k H4 hk s4 Q' kk => ?_) (fun H4 lv s4 hlv hlvs => ?_)⟩
      · refine ⟨_, rfl, _, rfl, pn, _, rfl, .inl (SqL.of (s4 _ _ hpn)), rfl, flat_nats _, _, rfl, ?_⟩
        have e : (!inV (.int (k : Int)) (((List.range (Kp340.mixtures m).length).filter (Kp340.ending m)).map fun (k : Nat) => V.int (k : Int))) = !((List.range (Kp340.mixtures m).length).filter (Kp340.ending m)).contains k := by rw [inV_nats]
        exact e ▸ kk H4 (Same.refl _)
      · rw [lm] at hlvs
        have elv := eInts_is (l := leavingP m) hlvs
        subst elv
        have ll := leaving_len m
        have u4 : Same H H4 := s1.trans (s2.trans (s3.trans s4))
        have hM4 : Dp K H4 (.ref pm) (.list ((Kp340.mixtures m).map eMix)) := .lst (SqL.of (s4 _ _ hpm3)) (DpAll_mono (s3.trans s4) _ _ hms)
        -- pairs = []
        refine ⟨Nat.zero_le _, fun pp npp => ?_⟩
        have s5 : Same H4 (upd H4 pp (.lst [])) := same_upd npp
        refine ⟨_, rfl, D, rfl, ⟨_, SqL.of (s5 _ _ hlv)⟩, for_list (K := K) (a := D) (xs := (leavingP m).map fun (k : Nat) => V.int (k : Int)) (fun k σ H' => ∃ y6 y7 y8 vs, σ = [some x, some (.int (m.n : Int)), some (.ref pm), some (.ref pn), some (.ref D), some (.ref pp), y6, y7, y8] ∧ Same H4 H' ∧ H' pp = some (.lst vs) ∧ DpAll K H' vs ((pairsP m ((leavingP m).take k)).map ePair))
          ⟨_, none, none, [], rfl, s5, upd_same, .nil⟩ (fun k σ H' _ ⟨_, _, _, _, _, s, _⟩ => SqL.of (s _ _ hlv)) ?_ ?_⟩
        · rintro k v σ H' hk ⟨y6, y7, y8, vs, rfl, sH, hpp', hvs⟩
          obtain ⟨i, hi, rfl⟩ := map_at hk
          have hki : k < (leavingP m).length := (List.getElem?_eq_some_iff.mp hi).1
          have hil := leaving_lt (List.mem_of_getElem? hi)
          have lpk : (pairsP m ((leavingP m).take k)).length ≤ 16 * 16 := by
            have h1 := pairsP_len (m := m) ((leavingP m).take k)
            have h2 : ((leavingP m).take k).length ≤ 16 := by rw [List.length_take]; omega
            exact Nat.le_trans h1 (Nat.mul_le_mul h2 l16)
          refine ⟨_, rfl, D, rfl, ⟨_, SqL.of (sH _ _ hlv)⟩, for_list (K := K) (a := D) (xs := (leavingP m).map fun (k : Nat) => V.int (k : Int)) (fun k2 σ H2 => ∃ y7 y8 vs, σ = [some x, some (.int (m.n : Int)), some (.ref pm), some (.ref pn), some (.ref D), some (.ref pp), some (.int (i : Int)), y7, y8] ∧ Same H4 H2 ∧ H2 pp = some (.lst vs) ∧ DpAll K H2 vs ((pairsP m ((leavingP m).take k) ++ pairRow m i ((leavingP m).take k2)).map ePair))
            ⟨y7, y8, vs, rfl, sH, hpp', by show DpAll K H' vs ((pairsP m ((leavingP m).take k) ++ []).map ePair); rw [List.append_nil]; exact hvs⟩ (fun k σ H' _ ⟨_, _, _, _, s, _⟩ => SqL.of (s _ _ hlv)) ?_ ?_⟩
          · rintro k2 v σ H2 hk2 ⟨y7, y8, vs, rfl, sH2, hpp2, hvs2⟩
            obtain ⟨j, hj, rfl⟩ := map_at hk2
            have hjl := leaving_lt (List.mem_of_getElem? hj)
            have er := pairRow_succ (m := m) (i := i) hj
            have lv2 : vs.length ≤ 16 * 16 + 16 := by
              rw [DpAll_len hvs2, List.length_map, List.length_append]
              have h1 := pairRow_len m i ((leavingP m).take k2)
              have h2 : ((leavingP m).take k2).length ≤ 16 := by rw [List.length_take]; omega
              omega
            have hM2 := Dp_mono sH2 _ _ hM4
            obtain ⟨p1, ys1, u1, e1, hS1, hu1, hd1⟩ := mixes_at hM2 (k := i) hil
            cases e1
            obtain ⟨p2, ys2, u2, e2, hS2, hu2, hd2⟩ := mixes_at hM2 (k := j) hjl
            cases e2
            have li := mixAt_len hm hil
            have lj := mixAt_len hm hjl
            unfold Kp343.mixAt at li lj er
            refine ⟨_, rfl, _, rfl, pm, ys1, _, _, rfl, rfl, hS1, hu1, _, rfl, _, rfl, pm, ys2, _, _, rfl, rfl, hS2, hu2, u1, u2, _, _, rfl, hd1, hd2, by rw [li, lj], by omega, ?_⟩
            cases em : moreOf ((Kp340.mixtures m).getD i []) ((Kp340.mixtures m).getD j []) with
            | none =>
              rw [em] at er
              refine ⟨_, rfl, rfl, _, rfl, ite2 (fun z => absurd z (by decide)) (fun _ => ?_)⟩
              refine ⟨_, _, vs, rfl, sH2, hpp2, ?_⟩
              rw [er, List.append_nil]
              exact hvs2
            | some s3 =>
              rw [em] at er
              refine ⟨_, rfl, rfl, _, rfl, ite2 (fun _ => ?_) (fun z => absurd (by rfl) z)⟩
              refine ⟨_, rfl, .inl ⟨rfl, _, SqL.of hpp2⟩, _, rfl, _, rfl, _, rfl, by show 3 ≤ sizeLine; decide, fun t nt => ?_⟩
              have s6 : Same H2 (upd H2 t (.tup [oI (some s3), .int (i : Int), .int (j : Int)])) := same_upd nt
              have hpp6 := s6 _ _ hpp2
              have hT6 : Dp K (upd H2 t (.tup [oI (some s3), .int (i : Int), .int (j : Int)])) (.ref t) (ePair (s3, i, j)) := .tup (SqT.of upd_same) (DpInts [(s3 : Int), (i : Int), (j : Int)])
              have hvs6 := DpAll_mono s6 _ _ hvs2
              generalize upd H2 t (.tup [oI (some s3), .int (i : Int), .int (j : Int)]) = H6 at *
              refine ⟨pp, vs, _, rfl, rfl, hpp6, smallS (by omega), ?_⟩
              have k7 : KeepT H6 (upd H6 pp (.lst (vs ++ [.ref t]))) := keepT_upd (notup_lst hpp6)
              refine ⟨_, _, vs ++ [.ref t], rfl, same_mut (sH2.trans s6) npp, upd_same, ?_⟩
              rw [er, ← List.append_assoc, List.map_append]
              exact DpAll_app (DpAll_tup k7 _ _ (tup_pairs _) hvs6) (DpAll_one (Dp_keep k7 rfl hT6))
          · rintro σ H2 ⟨y7, y8, vs, rfl, sH2, hpp2, hvs2⟩
            rw [List.length_map, List.take_length] at hvs2
            refine ⟨_, _, _, vs, rfl, sH2, hpp2, ?_⟩
            rw [pairsP_succ hi]
            exact hvs2
        · rintro σ H' ⟨y6, y7, y8, vs, rfl, sH, hpp', hvs⟩
          rw [List.length_map, List.take_length] at hvs
          exact ⟨_, rfl, q H' pp vs (u4.trans sH) (u4.free npp) hpp' hvs⟩
/-! ### substances_paired -/
def spPaired (K : PySem.W.Frag) : Sp := fun vs H Q _ => ∃ (x : V) (m : Net), vs = [x, .int (m.n : Int)] ∧ Dp K H x (.list (m.rules.map eRule)) ∧ NetOk m ∧ GivesL K H (eInts (Kp343.sameOf m)) Q
theorem pairsOf_len {m : Net} (h : NetOk m) : (Kp343.pairsOf m).length ≤ 256 := by
  by_cases h1 : (Kp342.hidden m).length = 1
  · rw [pairs_is h h1]
    have a := pairsP_len (m := m) (leavingP m)
    have b := leaving_len m
    have c := mixes16 h
    exact Nat.le_trans a (Nat.mul_le_mul (Nat.le_trans b c) c)
  · rw [pairs_no h1]
    exact Nat.zero_le _
theorem ok_substances_paired (T : Tx K mg) : FnOk P w K mg base CX0 8 T.fSubstancesPaired T.dSubstancesPaired ["rules", "substances"] (spPaired K) := by
  refine T.oSubstancesPaired.F.ok scSubstancesPaired (fun vs H Q E h => ?_) (fun cdv A outer s H vs Q E hr h => ?_)
  · obtain ⟨x, m, rfl, _⟩ := h
    rfl
  · obtain ⟨x, m, rfl, hx, hm, q⟩ := h
    have hn := hm.n
    have lp := pairsOf_len hm
    rw [same_is] at q
    refine ⟨_, (pss_cons 
        (ps_set (i := 2) scSubstancesPaired.nd rfl (.inr rfl) (pe_lc (own := [("pair", 3)]) (g := gName 3) (tt := tYes) rfl scSubstancesPaired.nd (pi_list (pe_call (ok_pairs_of T) (hr.mono (by decide)) (by rfl) T.oPairsOf.g T.oPairsOf.F.kp T.oPairsOf.b .nil pass0 (pa_cons (pv 0) (pa_cons (pv 1) pa_nil)))) (blkOk_by (N := NSubstancesPaired) (sc := defScope sSubstancesPaired) (by decide +kernel)) (fun _ _ _ _ _ => pg_name (i := 3) scSubstancesPaired.nd rfl (Or.inl rfl)) (fun _ _ _ _ _ => pts_nil) (fun _ _ _ _ _ => (pe_ix (ixt K) (pv 3) pe_int (fun _ _ => rfl)))))
      (pss_one 
        (ps_ret (pe_lc (own := [("s", 4)]) (g := gName 4) rfl scSubstancesPaired.nd (pi_range1 (by rfl) T.range (pa_cons (pv 1) pa_nil)) (blkOk_by (N := NSubstancesPaired) (sc := defScope sSubstancesPaired) (by decide +kernel)) (fun _ _ _ _ _ => pg_name (i := 4) scSubstancesPaired.nd rfl (Or.inl rfl)) (fun _ _ _ _ _ => pts_one (pt_cmpR (inseq K) (pv 4) (pv 2) (by rfl))) (fun _ _ _ _ _ => (pv 4)))))), ?_⟩
    refine ⟨_, rfl, _, rfl, x, m, rfl, hx, hm, fun H1 pp ps s1 npp hpp hps => ?_⟩
    have lps : ps.length = (Kp343.pairsOf m).length := by rw [DpAll_len hps, List.length_map]
    refine ⟨pp, rfl, ⟨_, SqL.of hpp⟩, fun D hD => lc_map (ds := eInts ((Kp343.pairsOf m).map (·.1))) (SqL.of hpp) (by unfold eInts; rw [lps, List.length_map, List.length_map]) (by unfold eInts; rw [List.length_map, List.length_map]; exact smallS (by omega)) hD (fun k v d H3 acc hk hd s3 hA3 Q' kk => ?_) (fun H2 xs s2 h2 hxs => ?_)⟩
    · obtain ⟨e, he, hde⟩ := DpAll_at (DpAll_mono s3 _ _ hps) hk
      obtain ⟨y, hy, rfl⟩ := map_at he
      unfold eInts at hd
      rw [List.map_map] at hd
      obtain ⟨y', hy', rfl⟩ := map_at hd
      rw [hy] at hy'
      cases hy'
      obtain ⟨p, rfl, hT⟩ := Dp_pair hde
      exact ⟨_, rfl, p, _, 0, _, rfl, rfl, hT, t0, kk _ _ (Same.refl _) (.int _)⟩
    · have exs := eInts_is hxs
      subst exs
      refine ⟨_, rfl, _, rfl, (small62 (by omega)).1, (small62 (by omega)).2, fun D2 hD2 => lc_filtS (K := K) (n := m.n) (p := fun s => ((Kp343.pairsOf m).map (·.1)).contains s) (smallS (by omega)) (by show 4 < 5; decide) hD2 (fun k H3 hk s3 Q' kk => ?_) (fun H4 ns s4 h4 hns => q H4 D2 ns (s1.trans (s2.trans s4)) ((s1.trans s2).free hD2) h4 hns)⟩
      refine ⟨_, rfl, _, rfl, D, _, rfl, .inl (SqL.of (s3 _ _ h2)), rfl, flat_nats _, _, rfl, ?_⟩
      have e : inV (.int (k : Int)) (((Kp343.pairsOf m).map (·.1)).map fun (k : Nat) => V.int (k : Int)) = ((Kp343.pairsOf m).map (·.1)).contains k := inV_nats _ _
      exact e ▸ kk H3 (Same.refl _)
end
end Sl

/-! The vessel: how it lies in the heap; makes_rule, makes_speed, __init__, has_begun, has_rule, begin. -/
namespace Sl
open PySem PySem.Spec PyProof.Rows L2
open Kp340 (Fr Mix Net)
section
variable {P : Program} {w : World} {K : PySem.W.Frag} {mg : Str → Option Value} {base : Heap}
/-! ### makes_rule -/
theorem shaped_nats (l : List Nat) : SeqAt.shaped (.list (eInts l)) = true := by
  obtain ⟨a, b⟩ := lay_nats l
  unfold SeqAt.shaped
  show (PyData.canLayAll0 (l.map fun (n : Nat) => PyData.int (n : Int)) && decide (PyData.depthAll (l.map fun (n : Nat) => PyData.int (n : Int)) + 1 ≤ 64)) = true
  rw [a, b]
  rfl
theorem eqv_lnats (a b : List Nat) : PyData.eqv (.list (eInts a)) (.list (eInts b)) = decide (a = b) := eqv_nats a b
def spMakesRule (K : PySem.W.Frag) : Sp := fun vs H Q _ => ∃ (x : V) (row : List Nat) (n : Nat), vs = [x, .int (n : Int)] ∧ Dp K H x (.list (eInts row)) ∧ n ≤ 4 ∧ row.length ≤ 1000 ∧ ∀ H', Same H H' → Q (.bl (okRule n row)) H'
theorem ok_makes_rule (T : Tx K mg) : FnOk P w K mg base CX0 1 T.fMakesRule T.dMakesRule ["row", "substances"] (spMakesRule K) := by
  refine T.oMakesRule.F.ok scMakesRule (fun vs H Q E h => ?_) (fun cdv A outer s H vs Q E hr h => ?_)
  · obtain ⟨x, row, n, rfl, _⟩ := h
    rfl
  · obtain ⟨x, row, n, rfl, hx, hn, hl, q⟩ := h
    obtain ⟨a, xs, rfl, hS, hA⟩ := Dp_list hx
    have e := eInts_is hA
    subst e
    refine ⟨_, (pss_cons 
        (ps_if (pt_cmpR op_ne (pe_callB (clen K) (by rfl) T.len PySem.boot_len (pa_cons (pv 0) pa_nil)) (pe_op op_mulW pe_int (pv 1)) (nomark _))
          (pss_one 
            (ps_ret pe_bl)) pss_nil)
      (pss_cons 
        (ps_for PassesOwn.never rfl (pi_list (pv 0)) (pg_name (i := 2) scMakesRule.nd rfl (.inl rfl))
          (pss_one 
            (ps_if (pt_cmpR op_gt (pv 2) (pe_gi T.cMOST_OF_ONE) (nomark _))
              (pss_one 
                (ps_ret pe_bl)) pss_nil)))
      (pss_one 
        (ps_ret (pe_cmpR (ned K (hu64 hr)) (pe_slice (sll K) (pv 0) po_none (po_some (pv 1))) (pe_slice (sll K) (pv 0) (po_some (pv 1)) po_none) (nomark _)))))), ?_⟩
    have hmul : CMulW 2 (n : Int) := wide_mul (a := 2) (b := 10) (by decide) (by
      rw [Int.natAbs_natCast]
      have : (2 : Nat) ^ 10 = 1024 := by decide
      omega) (by decide) (by decide) (by decide)
    refine ⟨_, rfl, a, _, rfl, .inl hS, _, rfl, _, _, rfl, rfl, hmul, rfl, _, rfl, ite2 (fun hc => ?_) (fun hc => ?_)⟩
    · have : row.length ≠ 2 * n := fun z => by
        rw [List.length_map, z, decide_eq_true (by rfl)] at hc
        exact absurd hc (by decide)
      have e : okRule n row = false := by
        unfold okRule
        rw [decide_eq_false this]
        rfl
      have := q H (Same.refl _)
      rw [e] at this
      exact this
    · have hlen : row.length = 2 * n := by
        rcases Decidable.em (row.length = 2 * n) with z | z
        · exact z
        · refine absurd ?_ hc
          rw [List.length_map, decide_eq_false (fun y => z (by have := V.int.inj y; omega))]
          rfl
      refine ⟨_, rfl, a, rfl, ⟨_, hS⟩, for_list (K := K) (a := a) (xs := row.map fun (k : Nat) => V.int (k : Int)) (fun i σ H' => ∃ y2, σ = [some (.ref a), some (.int (n : Int)), y2] ∧ H' = H ∧ ∀ x ∈ row.take i, x ≤ 3) ⟨none, rfl, rfl, fun x hx => absurd hx (by simp)⟩ (fun i σ H' _ ⟨_, _, e, _⟩ => by rw [e]; exact hS) ?_ ?_⟩
      · rintro i v σ H' hi ⟨y2, rfl, rfl, hall⟩
        obtain ⟨z, hz, rfl⟩ := map_at hi
        refine ⟨_, rfl, _, _, rfl, rfl, _, rfl, ite2 (fun hc => ?_) (fun hc => ?_)⟩
        · have hc : (3 : Int) < (z : Int) := of_decide_eq_true hc
          have e : okRule n row = false := by
            unfold okRule
            have : row.all (fun x => decide (x ≤ 3)) = false := by
              rw [List.all_eq_false]
              exact ⟨z, List.mem_of_getElem? hz, by simp; omega⟩
            rw [this, Bool.false_and, Bool.and_false]
          have := q H' (Same.refl _)
          rw [e] at this
          exact this
        · have hc : ¬ (3 : Int) < (z : Int) := fun y => hc (decide_eq_true y)
          refine ⟨_, rfl, rfl, fun x hx => ?_⟩
          rw [take_at hz] at hx
          rcases List.mem_append.mp hx with h | h
          · exact hall x h
          · rw [List.mem_singleton.mp h]
            omega
      · rintro σ H' ⟨y2, rfl, rfl, hall⟩
        rw [List.length_map, List.take_length] at hall
        refine ⟨_, rfl, _, rfl, _, rfl, a, _, rfl, hS, fun q1 nq1 => ?_⟩
        have s1 : Same H' (upd H' q1 (.lst (cutV (row.map fun (k : Nat) => V.int (k : Int)) none (some (n : Int))))) := same_upd nq1
        refine ⟨_, rfl, _, rfl, _, rfl, a, _, rfl, Same.seq s1 hS, fun q2 nq2 => ?_⟩
        rw [cut_take, ← List.map_take] at *
        rw [cut_drop, ← List.map_drop]
        have s2 : Same (upd H' q1 (.lst ((row.take n).map fun (k : Nat) => V.int (k : Int)))) (upd (upd H' q1 (.lst ((row.take n).map fun (k : Nat) => V.int (k : Int)))) q2 (.lst ((row.drop n).map fun (k : Nat) => V.int (k : Int)))) := same_upd nq2
        refine ⟨.list (eInts (row.take n)), .list (eInts (row.drop n)), .lst (SqL.of (s2 _ _ upd_same)) (DpNats _ _), .lst (SqL.of upd_same) (DpNats _ _), shaped_nats _, shaped_nats _, ?_⟩
        have e : okRule n row = !PyData.eqv (.list (eInts (row.take n))) (.list (eInts (row.drop n))) := by
          unfold okRule
          have : row.all (fun x => decide (x ≤ 3)) = true := List.all_eq_true.mpr fun x hx => decide_eq_true (hall x hx)
          rw [this, decide_eq_true hlen, eqv_lnats]
          by_cases z : row.take n = row.drop n
          · rw [decide_eq_true z, decide_eq_false (fun y => y z)]
            rfl
          · rw [decide_eq_false z, decide_eq_true z]
            rfl
        rw [← e]
        exact q _ (s1.trans s2)
/-! ### makes_speed -/
def spMakesSpeed : Sp := fun vs H Q _ => ∃ (a b : Nat), vs = [.int (a : Int), .int (b : Int)] ∧ Q (.bl (Kp340.okSpeed a b)) H
theorem ok_makes_speed (T : Tx K mg) : FnOk P w K mg base CX0 1 T.fMakesSpeed T.dMakesSpeed ["a", "b"] spMakesSpeed := by
  refine T.oMakesSpeed.F.ok scMakesSpeed (fun vs H Q E h => ?_) (fun cdv A outer s H vs Q E hr h => ?_)
  · obtain ⟨a, b, rfl, _⟩ := h
    rfl
  · obtain ⟨a, b, rfl, q⟩ := h
    refine ⟨_, (pss_one 
        (ps_ret (pe_and (pe_cmpR op_ge (pv 0) pe_int (nomark _)) (pe_and (pe_cmpR op_le (pv 0) (pe_gi T.cMOST_IN_SPEED) (nomark _)) (pe_and (pe_cmpR op_ge (pv 1) pe_int (nomark _)) (pe_one (pe_cmpR op_le (pv 1) (pe_gi T.cMOST_IN_SPEED) (nomark _)))))))), ?_⟩
    have d1 : decide ((1 : Int) ≤ (a : Int)) = decide (1 ≤ a) := decide_eq_decide.mpr (by omega)
    have d2 : decide ((a : Int) ≤ (1000 : Int)) = decide (a ≤ 1000) := decide_eq_decide.mpr (by omega)
    have d3 : decide ((1 : Int) ≤ (b : Int)) = decide (1 ≤ b) := decide_eq_decide.mpr (by omega)
    have d4 : decide ((b : Int) ≤ (1000 : Int)) = decide (b ≤ 1000) := decide_eq_decide.mpr (by omega)
    unfold Kp340.okSpeed at q
    refine ⟨_, rfl, _, _, rfl, rfl, _, rfl, ?_⟩
    rw [d1]
    refine ite2 (fun h1 => ?_) (fun h1 => ?_)
    · rw [h1] at q
      refine ⟨_, rfl, _, _, rfl, rfl, _, rfl, ?_⟩
      rw [d2]
      refine ite2 (fun h2 => ?_) (fun h2 => ?_)
      · rw [h2] at q
        refine ⟨_, rfl, _, _, rfl, rfl, _, rfl, ?_⟩
        rw [d3]
        refine ite2 (fun h3 => ?_) (fun h3 => ?_)
        · rw [h3] at q
          refine ⟨_, rfl, _, _, rfl, rfl, ?_⟩
          show Q (.bl (decide ((b : Int) ≤ 1000))) H
          rw [d4]
          exact q
        · rw [Bool.eq_false_iff.mpr h3] at q
          exact q
      · rw [Bool.eq_false_iff.mpr h2] at q
        exact q
    · rw [Bool.eq_false_iff.mpr h1] at q
      exact q
/-! ### the vessel in the heap -/
def vF (m : Net) (r : Addr) : List (Str × V) := [("substances", .int (m.n : Int)), ("rules", .ref r)]
structure VAt (K : PySem.W.Frag) (C : Addr) (H : Hp) (a r : Addr) (m : Net) : Prop where
  ins : ∃ dx, H a = some (.ins C dx (vF m r))
  lst : ∃ vs, H r = some (.lst vs) ∧ DpAll K H vs (m.rules.map eRule)
theorem lk_here {k : Str} {v : V} {r : List (Str × V)} : List.lookup k ((k, v) :: r) = some v := by
  have e : (k == k) = true := beq_self_eq_true k
  simp only [List.lookup, e]
theorem lk_past {k g : Str} {v : V} {r : List (Str × V)} (h : (k == g) = false) : List.lookup k ((g, v) :: r) = List.lookup k r := by
  simp only [List.lookup, h]
theorem put_here {f : Str} {v x : V} {r : List (Str × V)} : putF f v ((f, x) :: r) = (f, v) :: r := if_pos rfl
theorem put_past {f g : Str} {v x : V} {r : List (Str × V)} (h : ¬ g = f) : putF f v ((g, x) :: r) = (g, x) :: putF f v r := if_neg h
theorem vF_s (m : Net) (r : Addr) : (vF m r).lookup ("substances" : Str) = some (.int (m.n : Int)) := lk_here
theorem vF_r (m : Net) (r : Addr) : (vF m r).lookup ("rules" : Str) = some (.ref r) := (lk_past (by decide +kernel)).trans lk_here
theorem vF_no {m : Net} {r : Addr} {f : Str} (h1 : (f == ("substances" : Str)) = false) (h2 : (f == ("rules" : Str)) = false) : (vF m r).lookup f = none := (lk_past h1).trans ((lk_past h2).trans rfl)
/-- all but the vessel and its rules stands as it was -/
def Frame (H H' : Hp) (a r : Addr) : Prop := ∀ b o, H b = some o → b ≠ a → b ≠ r → H' b = some o
theorem same_frame {H H' : Hp} {a r : Addr} (s : Same H H') : Frame H H' a r := fun b o h _ _ => s b o h
theorem VAt.same {H H' : Hp} {C a r : Addr} {m : Net} (v : VAt K C H a r m) (s : Same H H') : VAt K C H' a r m := by
  obtain ⟨dx, h1⟩ := v.ins
  obtain ⟨vs, h2, h3⟩ := v.lst
  exact ⟨⟨dx, s _ _ h1⟩, vs, s _ _ h2, DpAll_mono s _ _ h3⟩
theorem VAt.dp {H : Hp} {C a r : Addr} {m : Net} (v : VAt K C H a r m) : Dp K H (.ref r) (.list (m.rules.map eRule)) := by
  obtain ⟨vs, h2, h3⟩ := v.lst
  exact .lst (SqL.of h2) h3
/-- a new list of whole numbers, and the vessel as it is then -/
def GivesM (K : PySem.W.Frag) (C : Addr) (H : Hp) (a r : Addr) (m' : Net) (l : List Int) (Q : VK) : Prop :=
  ∀ H' p r', Frame H H' a r → VAt K C H' a r' m' → (r' = r ∨ H r' = none) → H p = none → H' p = some (.lst (l.map V.int)) → Q (.ref p) H'
/-! ### __init__ -/
def spInit (K : PySem.W.Frag) (C : Addr) : Sp := fun vs H Q _ => ∃ (a dx : Addr), vs = [.ref a] ∧ H a = some (.ins C dx []) ∧ ∀ H' r, (∀ b o, H b = some o → b ≠ a → H' b = some o) → VAt K C H' a r ⟨0, []⟩ → H r = none → Q .non H'
theorem ok_init (T : Tx K mg) : FnOk P w K mg base CX0 1 T.fVesselInit T.dVesselInit ["self"] (spInit K T.C) := by
  refine T.oVesselInit.F.ok scVesselInit (fun vs H Q E h => ?_) (fun cdv A outer s H vs Q E hr h => ?_)
  · obtain ⟨a, dx, rfl, _⟩ := h
    rfl
  · obtain ⟨a, dx, rfl, ha, q⟩ := h
    refine ⟨_, (pss_cons 
        (ps_fld (pv 0) pe_int rfl)
      (pss_one 
        (ps_fld (pv 0) (pe_lst pa_nil) rfl))), ?_⟩
    refine ⟨_, rfl, a, T.C, dx, _, rfl, ha, T.cl, T.nS, (by show 0 < 1000; decide), ?_⟩
    refine ⟨Nat.zero_le _, fun r nr => ?_⟩
    have nar : a ≠ r := fun e => by
      rw [← e, upd_same] at nr
      cases nr
    refine ⟨_, rfl, a, T.C, dx, _, rfl, by rw [upd_ne nar]; exact upd_same, T.cl, T.nR, (by show 1 < 1000; decide), ?_⟩
    have nr0 : H r = none := by
      rw [upd_ne (fun e => nar e.symm)] at nr
      exact nr
    refine q _ r (fun b o h hb => ?_) ⟨⟨dx, ?_⟩, [], ?_, .nil⟩ nr0
    · rw [upd_ne hb, upd_ne (ne_of_none h nr0), upd_ne hb]
      exact h
    · rw [upd_same]
      exact congrArg (fun z => some (HO.ins T.C dx z)) ((put_past (by decide +kernel)).trans rfl)
    · rw [upd_ne (fun e => nar e.symm), upd_same]
/-! ### has_begun -/
def spBegun (K : PySem.W.Frag) (C : Addr) : Sp := fun vs H Q _ => ∃ (a r : Addr) (m : Net), vs = [.ref a] ∧ VAt K C H a r m ∧ Q (.bl (decide (0 < m.n))) H
theorem ok_has_begun_m (T : Tx K mg) : FnOk P w K mg base CX0 1 T.fVesselHasBegun T.dVesselHasBegun ["self"] (spBegun K T.C) := by
  refine T.oVesselHasBegun.F.ok scVesselHasBegun (fun vs H Q E h => ?_) (fun cdv A outer s H vs Q E hr h => ?_)
  · obtain ⟨a, r, m, rfl, _⟩ := h
    rfl
  · obtain ⟨a, r, m, rfl, hv, q⟩ := h
    obtain ⟨dx, ha⟩ := hv.ins
    refine ⟨_, (pss_one 
        (ps_ret (pe_cmpR op_gt (pe_fld (pv 0) rfl) pe_int (nomark _)))), ?_⟩
    refine ⟨_, rfl, a, T.C, dx, _, _, rfl, ha, T.cl, T.nS, vF_s m r, _, _, rfl, rfl, ?_⟩
    show Q (.bl (decide ((0 : Int) < (m.n : Int)))) H
    rw [show decide ((0 : Int) < (m.n : Int)) = decide (0 < m.n) from decide_eq_decide.mpr (by omega)]
    exact q
/-! ### has_rule -/
def spHasRule (K : PySem.W.Frag) (C : Addr) : Sp := fun vs H Q _ => ∃ (a r : Addr) (m : Net) (x y : V) (le ri : Mix), vs = [.ref a, x, y] ∧ VAt K C H a r m ∧ Dp K H x (eMix le) ∧ Dp K H y (eMix ri) ∧ Q (.bl (m.rules.any fun z => z.left == le && z.right == ri)) H
theorem ok_has_rule_m (T : Tx K mg) : FnOk P w K mg base CX0 1 T.fVesselHasRule T.dVesselHasRule ["self", "left", "right"] (spHasRule K T.C) := by
  refine T.oVesselHasRule.F.ok scVesselHasRule (fun vs H Q E h => ?_) (fun cdv A outer s H vs Q E hr h => ?_)
  · obtain ⟨a, r, m, x, y, le, ri, rfl, _⟩ := h
    rfl
  · obtain ⟨a, r, m, x, y, le, ri, rfl, hv, hx, hy, q⟩ := h
    obtain ⟨dx, ha⟩ := hv.ins
    obtain ⟨vs, h2, h3⟩ := hv.lst
    have len : vs.length = m.rules.length := by rw [DpAll_len h3, List.length_map]
    refine ⟨_, (pss_cons 
        (ps_for PassesOwn.never rfl (pi_list (pe_fld (pv 0) rfl)) (pg_name (i := 3) scVesselHasRule.nd rfl (.inl rfl))
          (pss_one 
            (ps_if (PW.pt (pw_and (pt_cmpR (eqd K (hu64 hr)) (pe_ix (ixt K) (pv 3) pe_int (fun _ _ => rfl)) (pv 1) (nomark _)) (pw_and1 (pt_cmpR (eqd K (hu64 hr)) (pe_ix (ixt K) (pv 3) pe_int (fun _ _ => rfl)) (pv 2) (nomark _)))))
              (pss_one 
                (ps_ret pe_bl)) pss_nil)))
      (pss_one 
        (ps_ret pe_bl))), ?_⟩
    refine ⟨_, rfl, a, T.C, dx, _, _, rfl, ha, T.cl, T.nR, vF_r m r, r, rfl, ⟨_, SqL.of h2⟩, for_list (K := K) (a := r) (xs := vs) (fun i σ H' => ∃ y3, σ = [some (.ref a), some x, some y, y3] ∧ H' = H ∧ ((m.rules.take i).any fun z => z.left == le && z.right == ri) = false) ⟨none, rfl, rfl, rfl⟩ (fun i σ H' _ ⟨_, _, e, _⟩ => by rw [e]; exact SqL.of h2) ?_ ?_⟩
    · rintro i v σ H' hi ⟨y3, rfl, rfl, hno⟩
      obtain ⟨e, he, hde⟩ := DpAll_at h3 hi
      obtain ⟨z, hz, rfl⟩ := map_at he
      obtain ⟨p, vl, vr, vsp, rfl, hT, hl, hrt, _⟩ := Dp_rule hde
      have es : ((m.rules.take (i + 1)).any fun z => z.left == le && z.right == ri) = (z.left == le && z.right == ri) := by
        rw [take_at hz, List.any_append, hno, List.any_cons, List.any_nil, Bool.or_false, Bool.false_or]
      have beq : ∀ u v : Mix, (u == v) = decide (u = v) := fun u v => by
        by_cases h : u = v
        · rw [decide_eq_true h, h]
          exact beq_self_eq_true v
        · rw [decide_eq_false h]
          exact beq_eq_false_iff_ne.mpr h
      have fin : z.left = le ∧ z.right = ri → (m.rules.any fun z => z.left == le && z.right == ri) = true := fun ⟨e1, e2⟩ => List.any_eq_true.mpr ⟨z, List.mem_of_getElem? hz, by rw [beq, beq, decide_eq_true e1, decide_eq_true e2]; rfl⟩
      refine ⟨_, rfl, p, _, 0, _, rfl, rfl, hT, t0, _, rfl, eMix _, eMix _, hl, hx, shaped_mix _, shaped_mix _, _, rfl, ite2 (fun hc => ?_) (fun hc => ?_)⟩
      · rw [eqv_mix] at hc
        have e1 := of_decide_eq_true hc
        refine ⟨_, rfl, p, _, 1, _, rfl, rfl, hT, t1, _, rfl, eMix _, eMix _, hrt, hy, shaped_mix _, shaped_mix _, _, rfl, ite2 (fun hc2 => ?_) (fun hc2 => ?_)⟩
        · rw [eqv_mix] at hc2
          rw [fin ⟨e1, of_decide_eq_true hc2⟩] at q
          exact q
        · rw [eqv_mix] at hc2
          refine ⟨_, rfl, rfl, ?_⟩
          rw [es, beq z.right, Bool.eq_false_iff.mpr hc2, Bool.and_false]
      · rw [eqv_mix] at hc
        refine ite2 (fun z => absurd z (by decide)) (fun _ => ?_)
        refine ⟨_, rfl, rfl, ?_⟩
        rw [es, beq z.left, Bool.eq_false_iff.mpr hc, Bool.false_and]
    · rintro σ H' ⟨y3, rfl, rfl, hno⟩
      rw [len, List.take_length] at hno
      rw [hno] at q
      exact q
end
end Sl

/-! The vessel's calls: begin, rule, unrule, ruleis, speed. -/
namespace Sl
open PySem PySem.Spec PyProof.Rows L2
open Kp340 (Fr Mix Net)
section
variable {P : Program} {w : World} {K : PySem.W.Frag} {mg : Str → Option Value} {base : Heap}
theorem gives_same {C : Addr} {H H' : Hp} {a r p : Addr} {m : Net} {l : List Int} {Q : VK} (g : GivesM K C H a r m l Q) (v : VAt K C H a r m) (s : Same H H') (np : H p = none) (hp : H' p = some (.lst (l.map V.int))) : Q (.ref p) H' := g H' p r (same_frame s) (v.same s) (.inl rfl) np hp
theorem ne_ar {C : Addr} {H : Hp} {a r : Addr} {m : Net} (v : VAt K C H a r m) : a ≠ r := by
  obtain ⟨dx, h1⟩ := v.ins
  obtain ⟨vs, h2, _⟩ := v.lst
  intro e
  rw [e, h2] at h1
  cases h1
/-! ### begin -/
def beginA (m : Net) (n : Nat) : Net × List Int := if n < 1 ∨ 4 < n then (m, [-22]) else (⟨n, []⟩, [0])
def spBegin (K : PySem.W.Frag) (C : Addr) : Sp := fun vs H Q _ => ∃ (a r : Addr) (m : Net) (n : Nat), vs = [.ref a, .int (n : Int)] ∧ VAt K C H a r m ∧ GivesM K C H a r (beginA m n).1 (beginA m n).2 Q
theorem ok_begin_m (T : Tx K mg) : FnOk P w K mg base CX0 1 T.fVesselBegin T.dVesselBegin ["self", "n"] (spBegin K T.C) := by
  refine T.oVesselBegin.F.ok scVesselBegin (fun vs H Q E h => ?_) (fun cdv A outer s H vs Q E hr h => ?_)
  · obtain ⟨a, r, m, n, rfl, _⟩ := h
    rfl
  · obtain ⟨a, r, m, n, rfl, hv, g⟩ := h
    obtain ⟨dx, ha⟩ := hv.ins
    refine ⟨_, (pss_cons 
        (ps_if (PW.pt (pw_or (pt_cmpR op_lt (pv 1) pe_int (nomark _)) (pw_or1 (pt_cmpR op_gt (pv 1) (pe_gi T.cMOST_SUBSTANCES) (nomark _)))))
          (pss_one 
            (ps_ret (pe_lst (pa_cons (pe_gi T.cWRONG) pa_nil)))) pss_nil)
      (pss_cons 
        (ps_fld (pv 0) (pv 1) rfl)
      (pss_cons 
        (ps_fld (pv 0) (pe_lst pa_nil) rfl)
      (pss_one 
        (ps_ret (pe_lst (pa_cons pe_int pa_nil))))))), ?_⟩
    have no : (n < 1 ∨ 4 < n) → ∀ p, H p = none → Q (.ref p) (upd H p (.lst [.int (-22)])) := fun hc p np => by
      unfold beginA at g
      rw [if_pos hc] at g
      exact gives_same g hv (same_upd np) np upd_same
    refine ⟨_, rfl, _, _, rfl, rfl, _, rfl, ite2 (fun hc => ?_) (fun hc => ?_)⟩
    · have hc : (n : Int) < 1 := of_decide_eq_true hc
      refine ite2 (fun _ => ?_) (fun z => absurd rfl z)
      exact ⟨by show 1 ≤ sizeLine; decide, no (.inl (by omega))⟩
    · have hc : ¬ (n : Int) < 1 := fun z => hc (decide_eq_true z)
      refine ⟨_, rfl, _, _, rfl, rfl, _, rfl, ite2 (fun hc2 => ?_) (fun hc2 => ?_)⟩
      · have hc2 : (4 : Int) < (n : Int) := of_decide_eq_true hc2
        exact ⟨by show 1 ≤ sizeLine; decide, no (.inr (by omega))⟩
      · have hc2 : ¬ (4 : Int) < (n : Int) := fun z => hc2 (decide_eq_true z)
        unfold beginA at g
        rw [if_neg (by omega)] at g
        refine ⟨_, rfl, _, rfl, a, T.C, dx, _, rfl, ha, T.cl, T.nS, (by show 2 < 1000; decide), ?_⟩
        have e1 : putF "substances" (.int (n : Int)) (vF m r) = vF ⟨n, m.rules⟩ r := put_here
        rw [e1]
        refine ⟨Nat.zero_le _, fun r' nr' => ?_⟩
        have nar : a ≠ r' := fun e => by
          rw [← e, upd_same] at nr'
          cases nr'
        have nr0 : H r' = none := by
          rw [upd_ne (fun e => nar e.symm)] at nr'
          exact nr'
        refine ⟨_, rfl, a, T.C, dx, _, rfl, by rw [upd_ne nar]; exact upd_same, T.cl, T.nR, (by show 2 < 1000; decide), ?_⟩
        have e2 : putF "rules" (.ref r') (vF ⟨n, m.rules⟩ r) = vF ⟨n, []⟩ r' := (put_past (by decide +kernel)).trans (congrArg _ put_here)
        rw [e2]
        refine ⟨by show 1 ≤ sizeLine; decide, fun p np => ?_⟩
        have npa : a ≠ p := fun e => by
          rw [← e, upd_same] at np
          cases np
        have npr : r' ≠ p := fun e => by
          rw [← e, upd_ne (fun z => nar z.symm), upd_same] at np
          cases np
        have np0 : H p = none := by
          rw [upd_ne (fun e => npa e.symm), upd_ne (fun e => npr e.symm), upd_ne (fun e => npa e.symm)] at np
          exact np
        refine g _ p r' (fun b o hb h1 h2 => ?_) ⟨⟨dx, ?_⟩, [], ?_, .nil⟩ (.inr nr0) np0 upd_same
        · rw [upd_ne (ne_of_none hb np0), upd_ne h1, upd_ne (ne_of_none hb nr0), upd_ne h1]
          exact hb
        · rw [upd_ne npa, upd_same]
        · rw [upd_ne npr, upd_ne (fun z => nar z.symm), upd_same]
/-! ### rule -/
def spRule (K : PySem.W.Frag) (C : Addr) : Sp := fun vs H Q _ => ∃ (a r : Addr) (m : Net) (x : V) (l : List Nat), vs = [.ref a, x] ∧ VAt K C H a r m ∧ NetOk m ∧ Dp K H x (.list (eInts l)) ∧ l.length ≤ 1000 ∧ GivesM K C H a r (stepA m (.rule l)).1 (stepA m (.rule l)).2 Q
theorem eMix_nats {H : Hp} {t : Addr} {x : List Nat} (h : H t = some (.tup (x.map fun (k : Nat) => V.int (k : Int)))) : Dp K H (.ref t) (eMix x) := .tup (SqT.of h) (DpNats _ x)
theorem vat_upd {C : Addr} {H : Hp} {a r : Addr} {m m' : Net} {vs : List V} (v : VAt K C H a r m) (hn : m'.n = m.n) (h : DpAll K (upd H r (.lst vs)) vs (m'.rules.map eRule)) : VAt K C (upd H r (.lst vs)) a r m' := by
  obtain ⟨dx, h1⟩ := v.ins
  refine ⟨⟨dx, ?_⟩, vs, upd_same, h⟩
  rw [upd_ne (ne_ar v), h1]
  unfold vF
  rw [hn]
theorem ok_rule_m (T : Tx K mg) : FnOk P w K mg base CX0 2 T.fVesselRule T.dVesselRule ["self", "row"] (spRule K T.C) := by
  refine T.oVesselRule.F.ok scVesselRule (fun vs H Q E h => ?_) (fun cdv A outer s H vs Q E hr h => ?_)
  · obtain ⟨a, r, m, x, l, rfl, _⟩ := h
    rfl
  · obtain ⟨a, r, m, x, l, rfl, hv, hm, hx, hl, g⟩ := h
    obtain ⟨dx, ha⟩ := hv.ins
    have hn := hm.n
    refine ⟨_, (pss_cons 
        (ps_if (pt_not (pt_val (pe_call (ok_makes_rule T) (hr.mono (by decide)) (by rfl) T.oMakesRule.g T.oMakesRule.F.kp T.oMakesRule.b .nil pass0 (pa_cons (pv 1) (pa_cons (pe_fld (pv 0) rfl) pa_nil)))))
          (pss_one 
            (ps_ret (pe_lst (pa_cons (pe_gi T.cWRONG) pa_nil)))) pss_nil)
      (pss_cons 
        (ps_set (i := 2) scVesselRule.nd rfl (.inl rfl) (pe_callTy (ctuple K) (by rfl) T.tuple PyProof.Rows.boot_tuple (pa_cons (pe_slice (sll K) (pv 1) po_none (po_some (pe_fld (pv 0) rfl))) pa_nil)))
      (pss_cons 
        (ps_set (i := 3) scVesselRule.nd rfl (.inl rfl) (pe_callTy (ctuple K) (by rfl) T.tuple PyProof.Rows.boot_tuple (pa_cons (pe_slice (sll K) (pv 1) (po_some (pe_fld (pv 0) rfl)) po_none) pa_nil)))
      (pss_cons 
        (ps_if (pt_val (pe_meth (pv 0) T.cl T.mVesselHasRule (ok_has_rule_m T) (hr.mono (by decide)) T.oVesselHasRule.b .nil pass0 (pa_cons (pv 2) (pa_cons (pv 3) pa_nil))))
          (pss_one 
            (ps_ret (pe_lst (pa_cons (pe_gi T.cRULE_IS_THERE) pa_nil)))) pss_nil)
      (pss_cons 
        (ps_if (pt_cmpR op_ge (pe_callB (clen K) (by rfl) T.len PySem.boot_len (pa_cons (pe_fld (pv 0) rfl) pa_nil)) (pe_gi T.cMOST_RULES) (nomark _))
          (pss_one 
            (ps_ret (pe_lst (pa_cons (pe_gi T.cTOO_MANY_RULES) pa_nil)))) pss_nil)
      (pss_cons 
        (ps_expr (pe_bm PySem.F.plainAttrs_list PySem.F.slot_list_append PySem.F.type_list_append mt_append (pe_fld (pv 0) rfl) (pa_cons (pe_tup (pa_cons (pv 2) (pa_cons (pv 3) (pa_cons (pe_gr T.gONE) pa_nil)))) pa_nil)))
      (pss_one 
        (ps_ret (pe_lst (pa_cons (pe_op op_sub (pe_callB (clen K) (by rfl) T.len PySem.boot_len (pa_cons (pe_fld (pv 0) rfl) pa_nil)) pe_int) pa_nil)))))))))), ?_⟩
    refine ⟨_, rfl, _, rfl, a, T.C, dx, _, _, rfl, ha, T.cl, T.nS, vF_s m r, x, l, m.n, rfl, hx, hn.2, hl, fun H1 s1 => ?_⟩
    refine ⟨_, rfl, ite2 (fun hc => ?_) (fun hc => ?_)⟩
    · have hc : okRule m.n l = false := by simpa using hc
      rw [stepA_rule_no hc] at g
      refine ⟨by show 1 ≤ sizeLine; decide, fun p np => ?_⟩
      exact gives_same g hv (s1.trans (same_upd np)) (s1.free np) upd_same
    · have hc : okRule m.n l = true := by simpa using hc
      obtain ⟨pl, xl, rfl, hSl, hAl⟩ := Dp_list hx
      have exl := eInts_is hAl
      subst exl
      have ha1 := s1 _ _ ha
      have hSl1 := Same.seq s1 hSl
      -- left = tuple(row[:n])
      refine ⟨_, rfl, _, rfl, a, T.C, dx, _, _, rfl, ha1, T.cl, T.nS, vF_s m r, _, rfl, pl, _, rfl, hSl1, fun q1 nq1 => ?_⟩
      rw [cut_take, ← List.map_take] at *
      have s2 : Same H1 (upd H1 q1 (.lst ((l.take m.n).map fun (k : Nat) => V.int (k : Int)))) := same_upd nq1
      refine ⟨q1, _, rfl, .inl ⟨SqL.of upd_same, fun tl ntl => ?_⟩⟩
      have s3 : Same (upd H1 q1 (.lst ((l.take m.n).map fun (k : Nat) => V.int (k : Int)))) (upd (upd H1 q1 (.lst ((l.take m.n).map fun (k : Nat) => V.int (k : Int)))) tl (.tup ((l.take m.n).map fun (k : Nat) => V.int (k : Int)))) := same_upd ntl
      have hL : Dp K (upd (upd H1 q1 (.lst ((l.take m.n).map fun (k : Nat) => V.int (k : Int)))) tl (.tup ((l.take m.n).map fun (k : Nat) => V.int (k : Int)))) (.ref tl) (eMix (l.take m.n)) := eMix_nats upd_same
      have s13 := s2.trans s3
      generalize upd (upd H1 q1 (.lst ((l.take m.n).map fun (k : Nat) => V.int (k : Int)))) tl (.tup ((l.take m.n).map fun (k : Nat) => V.int (k : Int))) = H2 at *
      clear s2 s3
      -- right = tuple(row[n:])
      refine ⟨_, rfl, _, rfl, a, T.C, dx, _, _, rfl, s13 _ _ ha1, T.cl, T.nS, vF_s m r, _, rfl, pl, _, rfl, Same.seq s13 hSl1, fun q2 nq2 => ?_⟩
      rw [cut_drop, ← List.map_drop]
      have s4 : Same H2 (upd H2 q2 (.lst ((l.drop m.n).map fun (k : Nat) => V.int (k : Int)))) := same_upd nq2
      refine ⟨q2, _, rfl, .inl ⟨SqL.of upd_same, fun tr ntr => ?_⟩⟩
      have s5 : Same (upd H2 q2 (.lst ((l.drop m.n).map fun (k : Nat) => V.int (k : Int)))) (upd (upd H2 q2 (.lst ((l.drop m.n).map fun (k : Nat) => V.int (k : Int)))) tr (.tup ((l.drop m.n).map fun (k : Nat) => V.int (k : Int)))) := same_upd ntr
      have hR : Dp K (upd (upd H2 q2 (.lst ((l.drop m.n).map fun (k : Nat) => V.int (k : Int)))) tr (.tup ((l.drop m.n).map fun (k : Nat) => V.int (k : Int)))) (.ref tr) (eMix (l.drop m.n)) := eMix_nats upd_same
      have s45 := s4.trans s5
      generalize upd (upd H2 q2 (.lst ((l.drop m.n).map fun (k : Nat) => V.int (k : Int)))) tr (.tup ((l.drop m.n).map fun (k : Nat) => V.int (k : Int))) = H3 at *
      clear s4 s5
      have hL3 := Dp_mono s45 _ _ hL
      have u : Same H H3 := s1.trans (s13.trans s45)
      have hv3 := hv.same u
      have ha3 := u _ _ ha
      -- if self.has_rule(left, right)
      refine ⟨_, rfl, a, dx, _, rfl, ha3, vF_no (by decide +kernel) (by decide +kernel), _, rfl, _, rfl, a, r, m, .ref tl, .ref tr, _, _, rfl, hv3, hL3, hR, _, rfl, ite2 (fun hc2 => ?_) (fun hc2 => ?_)⟩
      · rw [stepA_rule_there hc hc2] at g
        exact ⟨by show 1 ≤ sizeLine; decide, fun p np => gives_same g hv (u.trans (same_upd np)) (u.free np) upd_same⟩
      · have hc2 : (m.rules.any fun x => x.left == l.take m.n && x.right == l.drop m.n) = false := by simpa using hc2
        obtain ⟨vs, h2, h3⟩ := hv3.lst
        have lv : vs.length = m.rules.length := by rw [DpAll_len h3, List.length_map]
        refine ⟨_, rfl, a, T.C, dx, _, _, rfl, ha3, T.cl, T.nR, vF_r m r, r, vs, rfl, .inl (SqL.of h2), _, _, rfl, rfl, _, rfl, ite2 (fun hc3 => ?_) (fun hc3 => ?_)⟩
        · have hc3 : (8 : Int) ≤ (vs.length : Int) := of_decide_eq_true hc3
          rw [stepA_rule_many hc hc2 (by omega)] at g
          exact ⟨by show 1 ≤ sizeLine; decide, fun p np => gives_same g hv (u.trans (same_upd np)) (u.free np) upd_same⟩
        · have hc3 : ¬ (8 : Int) ≤ (vs.length : Int) := fun z => hc3 (decide_eq_true z)
          have h8 : ¬ 8 ≤ m.rules.length := by omega
          rw [stepA_rule hc hc2 h8] at g
          -- self.rules.append((left, right, ONE))
          refine ⟨_, rfl, a, T.C, dx, _, _, rfl, ha3, T.cl, T.nR, vF_r m r, .inl ⟨rfl, _, SqL.of h2⟩, _, rfl, _, rfl, by show 3 ≤ sizeLine; decide, fun t nt => ?_⟩
          have s6 : Same H3 (upd H3 t (.tup [.ref tl, .ref tr, .ref T.aONE])) := same_upd nt
          have hru : Dp K (upd H3 t (.tup [.ref tl, .ref tr, .ref T.aONE])) (.ref t) (eRule ⟨l.take m.n, l.drop m.n, (1, 1)⟩) := .tup (SqT.of upd_same) (.cons (Dp_mono s6 _ _ hL3) (.cons (Dp_mono s6 _ _ hR) (.cons (oneD T _) .nil)))
          have hv4 := hv3.same s6
          have h24 := s6 _ _ h2
          have h34 := DpAll_mono s6 _ _ h3
          have u4 := u.trans s6
          generalize upd H3 t (.tup [.ref tl, .ref tr, .ref T.aONE]) = H4 at *
          refine ⟨r, vs, _, rfl, rfl, h24, smallS (by omega), ?_⟩
          have k5 : KeepT H4 (upd H4 r (.lst (vs ++ [.ref t]))) := keepT_upd (notup_lst h24)
          have hv5 : VAt K T.C (upd H4 r (.lst (vs ++ [.ref t]))) a r { m with rules := m.rules ++ [⟨l.take m.n, l.drop m.n, (1, 1)⟩] } := by
            refine vat_upd hv4 rfl ?_
            show DpAll K _ _ ((m.rules ++ [_]).map eRule)
            rw [List.map_append]
            exact DpAll_app (DpAll_tup k5 _ _ (tup_rules _) h34) (DpAll_one (Dp_keep k5 (tup_rule _) hru))
          have fr5 : Frame H (upd H4 r (.lst (vs ++ [.ref t]))) a r := fun b o hb _ h2 => by
            rw [upd_ne h2]
            exact u4 b o hb
          obtain ⟨dx5, ha5⟩ := hv5.ins
          obtain ⟨vs5, h25, h35⟩ := hv5.lst
          have nrH : ∀ p, (upd H4 r (.lst (vs ++ [.ref t]))) p = none → H p = none := fun p np => by
            have : p ≠ r := fun e => by
              rw [e, upd_same] at np
              cases np
            rw [upd_ne this] at np
            exact u4.free np
          generalize upd H4 r (.lst (vs ++ [.ref t])) = H5 at *
          have lv5 : vs5.length = m.rules.length + 1 := by
            rw [DpAll_len h35, List.length_map]
            show (m.rules ++ [_]).length = _
            rw [List.length_append]
            rfl
          refine ⟨_, rfl, a, T.C, dx5, _, _, rfl, ha5, T.cl, T.nR, vF_r _ r, r, vs5, rfl, .inl (SqL.of h25), _, _, rfl, rfl, by show 1 ≤ sizeLine; decide, fun p np => ?_⟩
          have s7 : Same H5 (upd H5 p (.lst [.int ((vs5.length : Int) - 1)])) := same_upd np
          refine g _ p r (fun b o hb h1 h2 => s7 _ _ (fr5 b o hb h1 h2)) (hv5.same s7) (.inl rfl) (nrH p np) ?_
          rw [upd_same, lv5]
          show some (HO.lst [V.int (((m.rules.length + 1 : Nat) : Int) - 1)]) = some (HO.lst [V.int (m.rules.length : Int)])
          rw [show ((m.rules.length + 1 : Nat) : Int) - 1 = (m.rules.length : Int) by omega]
end
end Sl

/-! told.extend(part), part a tuple. -/
namespace Sl
open PySem PySem.Spec PyProof.Rows L2
set_option maxHeartbeats 4000000 in
theorem ext_tup (l b : Addr) (its zs : Array Value) (n k : Nat) (dd : Option Addr) (sl : Array (Option Value))
    (h0 : ¬ (!its.isEmpty && Builtin.List.listTooLong (its.size + zs.size)) = true) (h1 : its.size ≤ sizeLine) (h2 : its.size + zs.size ≤ sizeLine + 1) :
    Meets (Builtin.«list.extend» ⟨[.ref l, .ref b], []⟩) (fun _ R s =>
      s.heap.get? l = some ⟨.type "list", none, .seq its n, #[]⟩ ∧
      s.heap.get? b = some ⟨.type "tuple", dd, .seq zs k, sl⟩ ∧
      R (.ok (.ret Value.none)) { s with heap := s.heap.update l (Obj.mapSeq fun x => x ++ zs), toks := s.toks }) :=
  .of_wp fun prog w A R s h => by
    obtain ⟨hp, g, d, tk, os⟩ := s
    obtain ⟨hl, hb, h⟩ := h
    have f1 := AutoSeq1.idx_int
    have f2 := AutoSeq1.sub_tuple_tuple
    have f3 := AutoSeq1.sub_list_list
    have f4 := AutoSeq1.sub_tuple_list
    have f5 := AutoSeq1.sub_list_tuple
    have hz : (its ++ zs).size ≤ sizeLine + 1 := by
      rw [Array.size_append]
      exact h2
    wp_walk using (wpAny_updateSeq hl rfl (hz := h1) (_hz' := hz)), AutoSeq1.wpAny_loadPart' hl, AutoSeq1.wpAny_loadPart' hb
    exact ⟨_, rfl, h⟩
section
variable {X : Cx}
def rExtT (K : PySem.W.Frag) : V → List V → Hp → VK → Prop := fun x vs H Q => ∃ l b xs zs, x = .ref l ∧ vs = [.ref b] ∧ H l = some (.lst xs) ∧ SqT K H b zs ∧ xs.length + zs.length ≤ sizeLine ∧ Q .non (upd H l (.lst (xs ++ zs)))
theorem mt_extendT (K : PySem.W.Frag) (hK : X.K = K := by rfl) : MtM X "list.extend" (rExtT K) := by
  intro pins s σ H x vs v us Q I rx rv h
  obtain ⟨l, b, xs, zs, rfl, rfl, hH, hB, hz, q⟩ := h
  cases rx
  obtain ⟨u, rfl, ru⟩ := rv.one
  cases ru
  obtain ⟨z, its, n, r, hl, e⟩ := I.lstM hH
  subst hK
  obtain ⟨ts, r2, ⟨o, ho, hc, k, hd⟩, z2⟩ := I.tuple hB
  have l2 := r2.length
  obtain ⟨oc, od, odt, osl⟩ := o
  cases hc
  cases hd
  have hsz : its.toArray.size + ts.toArray.size ≤ sizeLine := by
    rw [List.size_toArray, List.size_toArray]
    omega
  have hlong : ¬ (!its.toArray.isEmpty && Builtin.List.listTooLong (its.toArray.size + ts.toArray.size)) = true := by
    rw [notLongL hsz, Bool.and_false]
    exact Bool.false_ne_true
  refine call_meets F.slot_list_extend ⟨_, e, rfl⟩ F.entry_list_extend (F.args_list_extend_2 _ _)
    (ext_tup l b its.toArray ts.toArray n k od osl hlong (by rw [List.size_toArray]; omega) (by omega)) ⟨e, ho, ?_⟩
  refine ⟨.non, _, I.lset (its' := its ++ ts) hH e (by simp) (r.append r2) ?_, rfl, q⟩
  rw [List.length_append]
  omega
end
end Sl

/-! The vessel's calls: unrule, ruleis, speed, lefts, relations, ratio, level. -/
namespace Sl
open PySem PySem.Spec PyProof.Rows L2
open Kp340 (Fr Mix Net)
section
variable {P : Program} {w : World} {K : PySem.W.Frag} {mg : Str → Option Value} {base : Heap}
theorem ge_dec {j n : Nat} : decide ((n : Int) ≤ (j : Int)) = decide (n ≤ j) := decide_eq_decide.mpr (by omega)
/-! ### unrule -/
def spUnrule (K : PySem.W.Frag) (C : Addr) : Sp := fun vs H Q _ => ∃ (a r : Addr) (m : Net) (j : Nat), vs = [.ref a, .int (j : Int)] ∧ VAt K C H a r m ∧ NetOk m ∧ GivesM K C H a r (stepA m (.unrule j)).1 (stepA m (.unrule j)).2 Q
theorem DpAll_erase : ∀ {ds : List PyData} {vs : List V} {H : Hp} (k : Nat), DpAll K H vs ds → DpAll K H (vs.eraseIdx k) (ds.eraseIdx k)
  | [], _, _, _, h => by cases h; exact .nil
  | d :: ds, _, _, 0, h => by
    cases h with
    | cons a b => exact b
  | d :: ds, _, _, k + 1, h => by
    cases h with
    | cons a b => exact .cons a (DpAll_erase k b)
theorem ok_unrule_m (T : Tx K mg) : FnOk P w K mg base CX0 1 T.fVesselUnrule T.dVesselUnrule ["self", "j"] (spUnrule K T.C) := by
  refine T.oVesselUnrule.F.ok scVesselUnrule (fun vs H Q E h => ?_) (fun cdv A outer s H vs Q E hr h => ?_)
  · obtain ⟨a, r, m, j, rfl, _⟩ := h
    rfl
  · obtain ⟨a, r, m, j, rfl, hv, hm, g⟩ := h
    obtain ⟨dx, ha⟩ := hv.ins
    obtain ⟨vs, h2, h3⟩ := hv.lst
    have lv : vs.length = m.rules.length := by rw [DpAll_len h3, List.length_map]
    have h8 := hm.few
    refine ⟨_, (pss_cons 
        (ps_if (pt_cmpR op_ge (pv 1) (pe_callB (clen K) (by rfl) T.len PySem.boot_len (pa_cons (pe_fld (pv 0) rfl) pa_nil)) (nomark _))
          (pss_one 
            (ps_ret (pe_lst (pa_cons (pe_gi T.cNO_SUCH) pa_nil)))) pss_nil)
      (pss_cons 
        (ps_expr (pe_bm PySem.F.plainAttrs_list PySem.F.slot_list_pop PySem.F.type_list_pop mt_popAt (pe_fld (pv 0) rfl) (pa_cons (pv 1) pa_nil)))
      (pss_one 
        (ps_ret (pe_lst (pa_cons (pe_callB (clen K) (by rfl) T.len PySem.boot_len (pa_cons (pe_fld (pv 0) rfl) pa_nil)) pa_nil)))))), ?_⟩
    refine ⟨_, rfl, _, rfl, a, T.C, dx, _, _, rfl, ha, T.cl, T.nR, vF_r m r, r, vs, rfl, .inl (SqL.of h2), _, _, rfl, rfl, _, rfl, ite2 (fun hc => ?_) (fun hc => ?_)⟩
    · have hc : (vs.length : Int) ≤ (j : Int) := of_decide_eq_true hc
      rw [stepA_unrule_no (by omega)] at g
      exact ⟨by show 1 ≤ sizeLine; decide, fun p np => gives_same g hv (same_upd np) np upd_same⟩
    · have hc : ¬ (vs.length : Int) ≤ (j : Int) := fun z => hc (decide_eq_true z)
      have hj : j < m.rules.length := by omega
      have hjv : j < vs.length := by omega
      rw [stepA_unrule hj] at g
      refine ⟨_, rfl, a, T.C, dx, _, _, rfl, ha, T.cl, T.nR, vF_r m r, .inl ⟨rfl, _, SqL.of h2⟩, _, rfl, r, vs, _, j, vs[j], rfl, rfl, h2, by omega, by omega, (ixN_seq (ixN_nat hjv)).1, List.getElem?_eq_getElem hjv, ?_⟩
      have k5 : KeepT H (upd H r (.lst (vs.eraseIdx j))) := keepT_upd (notup_lst h2)
      have hv5 : VAt K T.C (upd H r (.lst (vs.eraseIdx j))) a r { m with rules := m.rules.take j ++ m.rules.drop (j + 1) } := by
        refine vat_upd hv rfl ?_
        show DpAll K _ _ ((m.rules.take j ++ m.rules.drop (j + 1)).map eRule)
        rw [List.map_append, List.map_take, List.map_drop, ← List.eraseIdx_eq_take_drop_succ]
        exact DpAll_erase j (DpAll_tup k5 _ _ (tup_rules _) h3)
      have fr5 : Frame H (upd H r (.lst (vs.eraseIdx j))) a r := fun b o hb _ h2 => by
        rw [upd_ne h2]
        exact hb
      have nrH : ∀ p, (upd H r (.lst (vs.eraseIdx j))) p = none → H p = none := fun p np => by
        have : p ≠ r := fun e => by
          rw [e, upd_same] at np
          cases np
        rw [upd_ne this] at np
        exact np
      obtain ⟨dx5, ha5⟩ := hv5.ins
      obtain ⟨vs5, h25, h35⟩ := hv5.lst
      generalize upd H r (.lst (vs.eraseIdx j)) = H5 at *
      have lv5 : vs5.length = m.rules.length - 1 := by
        rw [DpAll_len h35, List.length_map]
        show (m.rules.take j ++ m.rules.drop (j + 1)).length = _
        rw [List.length_append, List.length_take, List.length_drop]
        omega
      refine ⟨_, rfl, a, T.C, dx5, _, _, rfl, ha5, T.cl, T.nR, vF_r _ r, r, vs5, rfl, .inl (SqL.of h25), by show 1 ≤ sizeLine; decide, fun p np => ?_⟩
      have s7 : Same H5 (upd H5 p (.lst [.int (vs5.length : Int)])) := same_upd np
      refine g _ p r (fun b o hb h1 h2 => s7 _ _ (fr5 b o hb h1 h2)) (hv5.same s7) (.inl rfl) (nrH p np) ?_
      rw [upd_same, lv5]
      rfl
/-! ### ruleis -/
def spRuleis (K : PySem.W.Frag) (C : Addr) : Sp := fun vs H Q _ => ∃ (a r : Addr) (m : Net) (j : Nat), vs = [.ref a, .int (j : Int)] ∧ VAt K C H a r m ∧ NetOk m ∧ GivesM K C H a r (stepA m (.ruleIs j)).1 (stepA m (.ruleIs j)).2 Q
theorem rules_at {H : Hp} {r : Addr} {m : Net} {vs : List V} {j : Nat} (h3 : DpAll K H vs (m.rules.map eRule)) (hj : j < m.rules.length) : ∃ v, atI vs (j : Int) = some v ∧ Dp K H v (eRule (Kp340.ruleAt m j)) := by
  obtain ⟨y, hy, hd⟩ := DpAll_get (i := j) (d := eRule (Kp340.ruleAt m j)) h3 (by rw [List.getElem?_map, get_at ⟨[], [], (0, 1)⟩ hj]; rfl)
  exact ⟨y, atI_of hy, hd⟩
theorem mix_seq {H : Hp} {v : V} {x : Mix} (h : Dp K H v (eMix x)) : ∃ p, v = .ref p ∧ SqT K H p (x.map fun (k : Nat) => V.int (k : Int)) := by
  obtain ⟨p, xs, rfl, hS, hA⟩ := Dp_tuple h
  have e := eInts_is hA
  subst e
  exact ⟨p, rfl, hS⟩
theorem ok_ruleis_m (T : Tx K mg) : FnOk P w K mg base CX0 1 T.fVesselRuleis T.dVesselRuleis ["self", "j"] (spRuleis K T.C) := by
  refine T.oVesselRuleis.F.ok scVesselRuleis (fun vs H Q E h => ?_) (fun cdv A outer s H vs Q E hr h => ?_)
  · obtain ⟨a, r, m, j, rfl, _⟩ := h
    rfl
  · obtain ⟨a, r, m, j, rfl, hv, hm, g⟩ := h
    obtain ⟨dx, ha⟩ := hv.ins
    obtain ⟨vs, h2, h3⟩ := hv.lst
    have lv : vs.length = m.rules.length := by rw [DpAll_len h3, List.length_map]
    refine ⟨_, (pss_cons 
        (ps_if (pt_cmpR op_ge (pv 1) (pe_callB (clen K) (by rfl) T.len PySem.boot_len (pa_cons (pe_fld (pv 0) rfl) pa_nil)) (nomark _))
          (pss_one 
            (ps_ret (pe_lst (pa_cons (pe_gi T.cNO_SUCH) pa_nil)))) pss_nil)
      (pss_cons 
        (ps_set (i := 2) scVesselRuleis.nd rfl (.inl rfl) (pe_ix (ixl K) (pe_fld (pv 0) rfl) (pv 1) (fun _ _ => rfl)))
      (pss_one 
        (ps_ret (pe_op op_cat (pe_op op_cat (pe_op op_cat (pe_lst (pa_cons (pe_fld (pv 0) rfl) pa_nil)) (pe_callTy (clist K) (by rfl) T.list PyProof.Rows.boot_list (pa_cons (pe_ix (ixt K) (pv 2) pe_int (fun _ _ => rfl)) pa_nil))) (pe_callTy (clist K) (by rfl) T.list PyProof.Rows.boot_list (pa_cons (pe_ix (ixt K) (pv 2) pe_int (fun _ _ => rfl)) pa_nil))) (pe_callTy (clist K) (by rfl) T.list PyProof.Rows.boot_list (pa_cons (pe_ix (ixt K) (pv 2) pe_int (fun _ _ => rfl)) pa_nil))))))), ?_⟩
    refine ⟨_, rfl, _, rfl, a, T.C, dx, _, _, rfl, ha, T.cl, T.nR, vF_r m r, r, vs, rfl, .inl (SqL.of h2), _, _, rfl, rfl, _, rfl, ite2 (fun hc => ?_) (fun hc => ?_)⟩
    · have hc : (vs.length : Int) ≤ (j : Int) := of_decide_eq_true hc
      rw [stepA_ruleIs_no (by omega)] at g
      exact ⟨by show 1 ≤ sizeLine; decide, fun p np => gives_same g hv (same_upd np) np upd_same⟩
    · have hc : ¬ (vs.length : Int) ≤ (j : Int) := fun z => hc (decide_eq_true z)
      have hj : j < m.rules.length := by omega
      rw [stepA_ruleIs hj] at g
      obtain ⟨v, hv1, hd⟩ := rules_at (r := r) h3 hj
      have ro := hm.each _ (ruleAt_mem hj)
      generalize Kp340.ruleAt m j = z at *
      obtain ⟨p, vl, vr, vsp, rfl, hT, hl, hrt, hsp⟩ := Dp_rule hd
      obtain ⟨pl, rfl, hSl⟩ := mix_seq hl
      obtain ⟨pr, rfl, hSr⟩ := mix_seq hrt
      obtain ⟨ps, rfl, hSs⟩ := Dp_F hsp
      have hn := hm.n
      have l1 := ro.left
      have l2 := ro.right
      refine ⟨_, rfl, a, T.C, dx, _, _, rfl, ha, T.cl, T.nR, vF_r m r, _, rfl, r, vs, _, _, rfl, rfl, SqL.of h2, hv1, ?_⟩
      refine ⟨_, rfl, a, T.C, dx, _, _, rfl, ha, T.cl, T.nS, vF_s m r, by show 1 ≤ sizeLine; decide, fun q1 nq1 => ?_⟩
      have s1 : Same H (upd H q1 (.lst [.int (m.n : Int)])) := same_upd nq1
      refine ⟨_, rfl, p, _, 0, _, rfl, rfl, SqT_keep (same_keepT s1) hT, t0, pl, _, rfl, .inr (SqT_keep (same_keepT s1) hSl), fun q2 nq2 => ?_⟩
      have h1 : (upd H q1 (.lst [.int (m.n : Int)])) q1 = some (.lst [.int (m.n : Int)]) := upd_same
      generalize upd H q1 (.lst [.int (m.n : Int)]) = H1 at *
      have s2 : Same H1 (upd H1 q2 (.lst (z.left.map fun (k : Nat) => V.int (k : Int)))) := same_upd nq2
      have hq2 : (upd H1 q2 (.lst (z.left.map fun (k : Nat) => V.int (k : Int)))) q2 = some (.lst (z.left.map fun (k : Nat) => V.int (k : Int))) := upd_same
      generalize upd H1 q2 (.lst (z.left.map fun (k : Nat) => V.int (k : Int))) = H2 at *
      refine ⟨q1, q2, _, _, rfl, rfl, s2 _ _ h1, hq2, by rw [List.length_map, l1]; exact Nat.le_of_lt (smallS (show 1 + m.n ≤ 1000 by omega)), fun q3 nq3 => ?_⟩
      have s3 : Same H2 (upd H2 q3 (.lst ([.int (m.n : Int)] ++ z.left.map fun (k : Nat) => V.int (k : Int)))) := same_upd nq3
      have hq3 : (upd H2 q3 (.lst ([.int (m.n : Int)] ++ z.left.map fun (k : Nat) => V.int (k : Int)))) q3 = some (.lst ([.int (m.n : Int)] ++ z.left.map fun (k : Nat) => V.int (k : Int))) := upd_same
      generalize upd H2 q3 (.lst ([.int (m.n : Int)] ++ z.left.map fun (k : Nat) => V.int (k : Int))) = H3 at *
      have u3 := s1.trans (s2.trans s3)
      refine ⟨_, rfl, p, _, 1, _, rfl, rfl, SqT_keep (same_keepT u3) hT, t1, pr, _, rfl, .inr (SqT_keep (same_keepT u3) hSr), fun q4 nq4 => ?_⟩
      have s4 : Same H3 (upd H3 q4 (.lst (z.right.map fun (k : Nat) => V.int (k : Int)))) := same_upd nq4
      have hq4 : (upd H3 q4 (.lst (z.right.map fun (k : Nat) => V.int (k : Int)))) q4 = some (.lst (z.right.map fun (k : Nat) => V.int (k : Int))) := upd_same
      generalize upd H3 q4 (.lst (z.right.map fun (k : Nat) => V.int (k : Int))) = H4 at *
      refine ⟨q3, q4, _, _, rfl, rfl, s4 _ _ hq3, hq4, by rw [List.length_append, List.length_map, List.length_map, l1, l2]; exact Nat.le_of_lt (smallS (show 1 + m.n + m.n ≤ 1000 by omega)), fun q5 nq5 => ?_⟩
      have s5 : Same H4 (upd H4 q5 (.lst (([.int (m.n : Int)] ++ z.left.map fun (k : Nat) => V.int (k : Int)) ++ z.right.map fun (k : Nat) => V.int (k : Int)))) := same_upd nq5
      have hq5 : (upd H4 q5 (.lst (([.int (m.n : Int)] ++ z.left.map fun (k : Nat) => V.int (k : Int)) ++ z.right.map fun (k : Nat) => V.int (k : Int)))) q5 = some (.lst (([.int (m.n : Int)] ++ z.left.map fun (k : Nat) => V.int (k : Int)) ++ z.right.map fun (k : Nat) => V.int (k : Int))) := upd_same
      generalize upd H4 q5 (.lst (([.int (m.n : Int)] ++ z.left.map fun (k : Nat) => V.int (k : Int)) ++ z.right.map fun (k : Nat) => V.int (k : Int))) = H5 at *
      have u5 := u3.trans (s4.trans s5)
      refine ⟨_, rfl, p, _, 2, _, rfl, rfl, SqT_keep (same_keepT u5) hT, t2, ps, _, rfl, .inr (SqT_keep (same_keepT u5) hSs), fun q6 nq6 => ?_⟩
      have s6 : Same H5 (upd H5 q6 (.lst [.int z.speed.1, .int z.speed.2])) := same_upd nq6
      have hq6 : (upd H5 q6 (.lst [.int z.speed.1, .int z.speed.2])) q6 = some (.lst [.int z.speed.1, .int z.speed.2]) := upd_same
      generalize upd H5 q6 (.lst [.int z.speed.1, .int z.speed.2]) = H6 at *
      refine ⟨q5, q6, _, _, rfl, rfl, s6 _ _ hq5, hq6, by rw [List.length_append, List.length_append, List.length_map, List.length_map, l1, l2]; exact Nat.le_of_lt (smallS (show 1 + m.n + m.n + 2 ≤ 1000 by omega)), fun q7 nq7 => ?_⟩
      refine gives_same g hv (u5.trans (s6.trans (same_upd nq7))) ((u5.trans s6).free nq7) ?_
      rw [upd_same]
      refine congrArg (fun z => some (HO.lst z)) ?_
      simp [Function.comp_def]
/-! ### speed -/
def spSpeed (K : PySem.W.Frag) (C : Addr) : Sp := fun vs H Q _ => ∃ (a r : Addr) (m : Net) (j x y : Nat), vs = [.ref a, .int (j : Int), .int (x : Int), .int (y : Int)] ∧ VAt K C H a r m ∧ NetOk m ∧ GivesM K C H a r (stepA m (.speed j x y)).1 (stepA m (.speed j x y)).2 Q
theorem speed_below {y : Nat} (h : y ≤ 1000) : ((y : Int)).natAbs < 2 ^ 8999 := by
  have : y < 2 ^ 10 := by
    have : (2 : Nat) ^ 10 = 1024 := by decide
    omega
  exact lt_mono (i := (y : Int)) (a := 10) (by rw [Int.natAbs_natCast]; exact this) (by decide)
/-- the rules as they'd be at another speed -/
def netAt (m : Net) (j : Nat) (q : Fr) : Net := { m with rules := m.rules.set j { Kp340.ruleAt m j with speed := q } }
def spRulesAt (K : PySem.W.Frag) : Sp := fun vs H Q _ => ∃ (x v : V) (m : Net) (j : Nat) (q : Fr), vs = [x, .int (j : Int), v] ∧ Dp K H x (.list (m.rules.map eRule)) ∧ Dp K H v (eF q) ∧ j < m.rules.length ∧ m.rules.length ≤ 8 ∧ GivesL K H ((netAt m j q).rules.map eRule) Q
theorem ok_rules_at (T : Tx K mg) : FnOk P w K mg base CX0 1 T.fRulesAt T.dRulesAt ["rules", "j", "speed"] (spRulesAt K) := by
  refine T.oRulesAt.F.ok scRulesAt (fun vs H Q E h => ?_) (fun cdv A outer s H vs Q E hr h => ?_)
  · obtain ⟨x, v, m, j, q, rfl, _⟩ := h
    rfl
  · obtain ⟨x, v, m, j, f, rfl, hx, hf, hj, h8, q⟩ := h
    obtain ⟨a, xs, rfl, hS, hA⟩ := Dp_list hx
    have lv : xs.length = m.rules.length := by rw [DpAll_len hA, List.length_map]
    refine ⟨_, (pss_cons 
        (ps_set (i := 3) scRulesAt.nd rfl (.inl rfl) (pe_callTy (clist K) (by rfl) T.list PyProof.Rows.boot_list (pa_cons (pv 0) pa_nil)))
      (pss_cons 
        (ps_asg (pe_tup (pa_cons (pe_ix (ixt K) (pe_ix (ixl K) (pv 0) (pv 1) (fun _ _ => rfl)) pe_int (fun _ _ => rfl)) (pa_cons (pe_ix (ixt K) (pe_ix (ixl K) (pv 0) (pv 1) (fun _ _ => rfl)) pe_int (fun _ _ => rfl)) (pa_cons (pv 2) pa_nil)))) (pg_sub (pv 3) (pv 1) set_list))
      (pss_one 
        (ps_ret (pv 3))))), ?_⟩
    refine ⟨_, rfl, a, xs, rfl, .inl hS, fun pc npc => ?_⟩
    have s1 : Same H (upd H pc (.lst xs)) := same_upd npc
    have hpc : (upd H pc (.lst xs)) pc = some (.lst xs) := upd_same
    generalize upd H pc (.lst xs) = H1 at *
    have hA1 := DpAll_mono s1 _ _ hA
    have hS1 := Same.seq s1 hS
    obtain ⟨u, hu, hd⟩ := rules_at (r := pc) hA1 hj
    obtain ⟨p, vl, vr, vsp, rfl, hT, hl, hrt, hsp⟩ := Dp_rule hd
    refine ⟨_, rfl, _, rfl, a, xs, _, _, rfl, rfl, hS1, hu, p, _, 0, _, rfl, rfl, hT, t0, _, rfl, _, rfl, a, xs, _, _, rfl, rfl, hS1, hu, p, _, 1, _, rfl, rfl, hT, t1, _, rfl, by show 3 ≤ sizeLine; decide, fun t nt => ?_⟩
    have s2 : Same H1 (upd H1 t (.tup [vl, vr, v])) := same_upd nt
    have hru : Dp K (upd H1 t (.tup [vl, vr, v])) (.ref t) (eRule { Kp340.ruleAt m j with speed := f }) := .tup (SqT.of upd_same) (.cons (Dp_mono s2 _ _ hl) (.cons (Dp_mono s2 _ _ hrt) (.cons (Dp_mono (s1.trans s2) _ _ hf) .nil)))
    have hpc2 := s2 _ _ hpc
    have hA2 := DpAll_mono s2 _ _ hA1
    generalize upd H1 t (.tup [vl, vr, v]) = H2 at *
    refine ⟨_, rfl, _, rfl, pc, xs, _, j, rfl, rfl, hpc2, ixN_nat (by omega), ?_⟩
    have k5 : KeepT H2 (upd H2 pc (.lst (xs.set j (.ref t)))) := keepT_upd (notup_lst hpc2)
    refine ⟨_, rfl, q _ pc _ (same_mut (s1.trans s2) npc) npc upd_same ?_⟩
    unfold netAt
    rw [List.map_set]
    exact DpAll_set j (DpAll_tup k5 _ _ (tup_rules _) hA2) (Dp_keep k5 (tup_rule _) hru)
theorem ok_speed_m (T : Tx K mg) : FnOk P w K mg base CX0 3 T.fVesselSpeed T.dVesselSpeed ["self", "j", "a", "b"] (spSpeed K T.C) := by
  refine T.oVesselSpeed.F.ok scVesselSpeed (fun vs H Q E h => ?_) (fun cdv A outer s H vs Q E hr h => ?_)
  · obtain ⟨a, r, m, j, x, y, rfl, _⟩ := h
    rfl
  · obtain ⟨a, r, m, j, x, y, rfl, hv, hm, g⟩ := h
    obtain ⟨dx, ha⟩ := hv.ins
    obtain ⟨vs, h2, h3⟩ := hv.lst
    have lv : vs.length = m.rules.length := by rw [DpAll_len h3, List.length_map]
    refine ⟨_, (pss_cons 
        (ps_if (pt_cmpR op_ge (pv 1) (pe_callB (clen K) (by rfl) T.len PySem.boot_len (pa_cons (pe_fld (pv 0) rfl) pa_nil)) (nomark _))
          (pss_one 
            (ps_ret (pe_lst (pa_cons (pe_gi T.cNO_SUCH) pa_nil)))) pss_nil)
      (pss_cons 
        (ps_if (pt_not (pt_val (pe_call (ok_makes_speed T) (hr.mono (by decide)) (by rfl) T.oMakesSpeed.g T.oMakesSpeed.F.kp T.oMakesSpeed.b .nil pass0 (pa_cons (pv 2) (pa_cons (pv 3) pa_nil)))))
          (pss_one 
            (ps_ret (pe_lst (pa_cons (pe_gi T.cWRONG) pa_nil)))) pss_nil)
      (pss_cons 
        (ps_fld (pv 0) (pe_call (ok_rules_at T) (hr.mono (by decide)) (by rfl) T.oRulesAt.g T.oRulesAt.F.kp T.oRulesAt.b .nil pass0 (pa_cons (pe_fld (pv 0) rfl) (pa_cons (pv 1) (pa_cons (pe_call (ok_lowest T) (hr.mono (by decide)) (by rfl) T.oLowest.g T.oLowest.F.kp T.oLowest.b .nil pass0 (pa_cons (pv 2) (pa_cons (pv 3) pa_nil))) pa_nil)))) rfl)
      (pss_one 
        (ps_ret (pe_lst (pa_cons pe_int pa_nil))))))), ?_⟩
    refine ⟨_, rfl, _, rfl, a, T.C, dx, _, _, rfl, ha, T.cl, T.nR, vF_r m r, r, vs, rfl, .inl (SqL.of h2), _, _, rfl, rfl, _, rfl, ite2 (fun hc => ?_) (fun hc => ?_)⟩
    · have hc : (vs.length : Int) ≤ (j : Int) := of_decide_eq_true hc
      rw [stepA_speed_no (by omega)] at g
      exact ⟨by show 1 ≤ sizeLine; decide, fun p np => gives_same g hv (same_upd np) np upd_same⟩
    · have hc : ¬ (vs.length : Int) ≤ (j : Int) := fun z => hc (decide_eq_true z)
      have hj : j < m.rules.length := by omega
      refine ⟨_, rfl, _, rfl, x, y, rfl, _, rfl, ite2 (fun hc2 => ?_) (fun hc2 => ?_)⟩
      · have hc2 : Kp340.okSpeed x y = false := by simpa using hc2
        rw [stepA_speed_bad hj hc2] at g
        exact ⟨by show 1 ≤ sizeLine; decide, fun p np => gives_same g hv (same_upd np) np upd_same⟩
      · have hc2 : Kp340.okSpeed x y = true := by simpa using hc2
        rw [stepA_speed hj hc2] at g
        have hxy := hc2
        unfold Kp340.okSpeed at hxy
        simp only [Bool.and_eq_true, decide_eq_true_eq] at hxy
        refine ⟨_, rfl, a, T.C, dx, _, _, rfl, ha, T.cl, T.nR, vF_r m r, _, rfl, _, rfl, _, rfl, (x : Int), (y : Int), rfl, by omega, speed_below hxy.2, fun H1 pf s1 npf hpf => ?_⟩
        refine ⟨.ref r, .ref pf, m, j, Kp340.fr (x : Int) (y : Int), rfl, Dp_mono s1 _ _ hv.dp, F_of hpf, hj, hm.few, fun H2 r' xs s2 nr' hr' hxs => ?_⟩
        have u := s1.trans s2
        have nr0 : H r' = none := s1.free nr'
        have nar : a ≠ r' := ne_of_none ha nr0
        refine ⟨_, rfl, a, T.C, dx, _, rfl, u _ _ ha, T.cl, T.nR, (by show 2 < 1000; decide), ?_⟩
        have e2 : putF "rules" (.ref r') (vF m r) = vF (netAt m j (Kp340.fr (x : Int) (y : Int))) r' := (put_past (by decide +kernel)).trans (congrArg _ put_here)
        rw [e2]
        refine ⟨by show 1 ≤ sizeLine; decide, fun p np => ?_⟩
        have ha2 := u _ _ ha
        have npa : p ≠ a := fun e => by rw [e, upd_same] at np; cases np
        have np2 : H2 p = none := by rw [upd_ne npa] at np; exact np
        have nrp : r' ≠ p := ne_of_none hr' np2
        have k5 : KeepT H2 (upd H2 a (.ins T.C dx (vF (netAt m j (Kp340.fr (x : Int) (y : Int))) r'))) := keepT_upd (notup_ins ha2)
        refine g _ p r' (fun b o hb h1 h2 => ?_) ⟨⟨dx, ?_⟩, xs, ?_, ?_⟩ (.inr nr0) (u.free np2) upd_same
        · rw [upd_ne (ne_of_none hb (u.free np2)), upd_ne h1]
          exact u b o hb
        · rw [upd_ne (fun e => npa e.symm), upd_same]
          rfl
        · rw [upd_ne nrp, upd_ne (fun e => nar e.symm)]
          exact hr'
        · exact DpAll_mono (same_upd np) _ _ (DpAll_tup k5 _ _ (tup_rules _) hxs)
/-! ### lefts -/
def spLefts (K : PySem.W.Frag) (C : Addr) : Sp := fun vs H Q _ => ∃ (a r : Addr) (m : Net), vs = [.ref a] ∧ VAt K C H a r m ∧ NetOk m ∧ GivesM K C H a r (stepA m .lefts).1 (stepA m .lefts).2 Q
theorem ok_lefts_m (T : Tx K mg) : FnOk P w K mg base CX0 3 T.fVesselLefts T.dVesselLefts ["self"] (spLefts K T.C) := by
  refine T.oVesselLefts.F.ok scVesselLefts (fun vs H Q E h => ?_) (fun cdv A outer s H vs Q E hr h => ?_)
  · obtain ⟨a, r, m, rfl, _⟩ := h
    rfl
  · obtain ⟨a, r, m, rfl, hv, hm, g⟩ := h
    obtain ⟨dx, ha⟩ := hv.ins
    have h8 := hm.few
    rw [stepA_lefts, ← lefts_is] at g
    have ln := nums_len m.rules
    have lm := mixturesOf_len m.rules
    refine ⟨_, (pss_cons 
        (ps_set (i := 1) scVesselLefts.nd rfl (.inl rfl) (pe_call (ok_numbers_taken T) (hr.mono (by decide)) (by rfl) T.oNumbersTaken.g T.oNumbersTaken.F.kp T.oNumbersTaken.b .nil pass0 (pa_cons (pe_fld (pv 0) rfl) pa_nil)))
      (pss_one 
        (ps_ret (pe_op op_cat (pe_lst (pa_cons (pe_callB (clen K) (by rfl) T.len PySem.boot_len (pa_cons (pv 1) pa_nil)) pa_nil)) (pv 1))))), ?_⟩
    refine ⟨_, rfl, a, T.C, dx, _, _, rfl, ha, T.cl, T.nR, vF_r m r, .ref r, m.rules, rfl, hv.dp, by omega, fun H1 pn ns s1 npn hpn hns => ?_⟩
    have ens := eInts_is hns
    subst ens
    refine ⟨_, rfl, pn, _, rfl, .inl (SqL.of hpn), by show 1 ≤ sizeLine; decide, fun q1 nq1 => ?_⟩
    rw [List.length_map] at *
    have s2 : Same H1 (upd H1 q1 (.lst [.int ((numbersTaken m.rules).length : Int)])) := same_upd nq1
    refine ⟨_, rfl, q1, pn, _, _, rfl, rfl, upd_same, s2 _ _ hpn, by rw [List.length_map]; exact Nat.le_of_lt (smallS (show 1 + (numbersTaken m.rules).length ≤ 1000 by omega)), fun q2 nq2 => ?_⟩
    refine gives_same g hv (s1.trans (s2.trans (same_upd nq2))) ((s1.trans s2).free nq2) ?_
    rw [upd_same, List.map_cons, List.map_map]
    rfl
/-! ### ratio -/
def spRatioM (K : PySem.W.Frag) (C : Addr) : Sp := fun vs H Q _ => ∃ (a r : Addr) (m : Net) (i j : Nat), vs = [.ref a, .int (i : Int), .int (j : Int)] ∧ VAt K C H a r m ∧ NetOk m ∧ GivesM K C H a r (stepA m (.ratio i j)).1 (stepA m (.ratio i j)).2 Q
theorem ok_ratio_m (T : Tx K mg) : FnOk P w K mg base CX0 9 T.fVesselRatio T.dVesselRatio ["self", "i", "j"] (spRatioM K T.C) := by
  refine T.oVesselRatio.F.ok scVesselRatio (fun vs H Q E h => ?_) (fun cdv A outer s H vs Q E hr h => ?_)
  · obtain ⟨a, r, m, i, j, rfl, _⟩ := h
    rfl
  · obtain ⟨a, r, m, i, j, rfl, hv, hm, g⟩ := h
    obtain ⟨dx, ha⟩ := hv.ins
    have h8 := hm.few
    refine ⟨_, (pss_cons 
        (ps_set (i := 3) scVesselRatio.nd rfl (.inl rfl) (pe_call (ok_numbers_taken T) (hr.mono (by decide)) (by rfl) T.oNumbersTaken.g T.oNumbersTaken.F.kp T.oNumbersTaken.b .nil pass0 (pa_cons (pe_fld (pv 0) rfl) pa_nil)))
      (pss_cons 
        (ps_if (PW.pt (pw_or (pt_cmpR (notinseq K) (pv 1) (pv 3) (by rfl)) (pw_or1 (pt_cmpR (notinseq K) (pv 2) (pv 3) (by rfl)))))
          (pss_one 
            (ps_ret (pe_lst (pa_cons (pe_gi T.cNO_SUCH) pa_nil)))) pss_nil)
      (pss_cons 
        (ps_set (i := 4) scVesselRatio.nd rfl (.inl rfl) (pe_call (ok_ratio_of T) (hr.mono (by decide)) (by rfl) T.oRatioOf.g T.oRatioOf.F.kp T.oRatioOf.b .nil pass0 (pa_cons (pe_fld (pv 0) rfl) (pa_cons (pe_fld (pv 0) rfl) (pa_cons (pv 1) (pa_cons (pv 2) pa_nil))))))
      (pss_cons 
        (ps_if (pt_cmpR op_isN (pv 4) pe_non (nomark _))
          (pss_one 
            (ps_ret (pe_lst (pa_cons (pe_gi T.cNOT_TOLD) pa_nil)))) pss_nil)
      (pss_one 
        (ps_ret (pe_op op_cat (pe_lst (pa_cons pe_int pa_nil)) (pe_callTy (clist K) (by rfl) T.list PyProof.Rows.boot_list (pa_cons (pv 4) pa_nil))))))))), ?_⟩
    refine ⟨_, rfl, a, T.C, dx, _, _, rfl, ha, T.cl, T.nR, vF_r m r, .ref r, m.rules, rfl, hv.dp, by omega, fun H1 pn ns s1 npn hpn hns => ?_⟩
    have ens := eInts_is hns
    subst ens
    have no : ¬ (i ∈ numbersTaken m.rules ∧ j ∈ numbersTaken m.rules) → ∀ p, H1 p = none → Q (.ref p) (upd H1 p (.lst [.int (-2)])) := fun hc p np => by
      rw [lefts_is] at hc
      rw [stepA_ratio_no hc] at g
      exact gives_same g hv (s1.trans (same_upd np)) (s1.free np) upd_same
    refine ⟨_, rfl, _, rfl, pn, _, rfl, .inl (SqL.of hpn), rfl, flat_nats _, _, rfl, ?_⟩
    show if (!inV (.int (i : Int)) ((numbersTaken m.rules).map fun (k : Nat) => V.int (k : Int))) = true then _ else _
    rw [inV_nats]
    refine ite2 (fun hc => ?_) (fun hc => ?_)
    · have hc : ¬ i ∈ numbersTaken m.rules := by simpa using hc
      refine ite2 (fun _ => ?_) (fun z => absurd rfl z)
      exact ⟨by show 1 ≤ sizeLine; decide, no fun z => hc z.1⟩
    · have hi : i ∈ numbersTaken m.rules := by simpa using hc
      refine ⟨_, rfl, _, rfl, pn, _, rfl, .inl (SqL.of hpn), rfl, flat_nats _, _, rfl, ?_⟩
      show if (!inV (.int (j : Int)) ((numbersTaken m.rules).map fun (k : Nat) => V.int (k : Int))) = true then _ else _
      rw [inV_nats]
      refine ite2 (fun hc => ?_) (fun hc => ?_)
      · have hc : ¬ j ∈ numbersTaken m.rules := by simpa using hc
        exact ⟨by show 1 ≤ sizeLine; decide, no fun z => hc z.2⟩
      · have hj : j ∈ numbersTaken m.rules := by simpa using hc
        have ha1 := s1 _ _ ha
        refine ⟨_, rfl, a, T.C, dx, _, _, rfl, ha1, T.cl, T.nR, vF_r m r, _, rfl, a, T.C, dx, _, _, rfl, ha1, T.cl, T.nS, vF_s m r, _, rfl, _, rfl, .ref r, m, i, j, rfl, (hv.same s1).dp, hm, hi, hj, fun H2 v s2 hv2 => ?_⟩
        rw [stepA_ratio (by rw [← lefts_is]; exact hi) (by rw [← lefts_is]; exact hj), ← ratioOf_is hm] at g
        cases er : ratioOf m.rules m.n i j with
        | none =>
          rw [er] at hv2 g
          cases hv2
          refine ⟨_, rfl, rfl, _, rfl, ite2 (fun _ => ?_) (fun z => absurd rfl z)⟩
          exact ⟨by show 1 ≤ sizeLine; decide, fun p np => gives_same g hv (s1.trans (s2.trans (same_upd np))) ((s1.trans s2).free np) upd_same⟩
        | some q0 =>
          rw [er] at hv2 g
          obtain ⟨p0, rfl, hp0⟩ := Dp_F hv2
          refine ⟨_, rfl, rfl, _, rfl, ite2 (fun z => absurd z (by rw [ref_non]; decide)) (fun _ => ?_)⟩
          refine ⟨by show 1 ≤ sizeLine; decide, fun q1 nq1 => ?_⟩
          have s3 : Same H2 (upd H2 q1 (.lst [.int 0])) := same_upd nq1
          refine ⟨_, rfl, p0, _, rfl, .inr (SqT_keep (same_keepT s3) hp0), fun q2 nq2 => ?_⟩
          have s4 : Same (upd H2 q1 (.lst [.int 0])) (upd (upd H2 q1 (.lst [.int 0])) q2 (.lst [.int q0.1, .int q0.2])) := same_upd nq2
          refine ⟨q1, q2, _, _, rfl, rfl, s4 _ _ upd_same, upd_same, by show 3 ≤ sizeLine; decide, fun q3 nq3 => ?_⟩
          exact gives_same g hv (s1.trans (s2.trans (s3.trans (s4.trans (same_upd nq3))))) ((s1.trans (s2.trans (s3.trans s4))).free nq3) upd_same
/-! ### level -/
def spLevelM (K : PySem.W.Frag) (C : Addr) : Sp := fun vs H Q _ => ∃ (a r : Addr) (m : Net) (s : Nat), vs = [.ref a, .int (s : Int)] ∧ VAt K C H a r m ∧ NetOk m ∧ GivesM K C H a r (stepA m (.level s)).1 (stepA m (.level s)).2 Q
theorem levelGo_pos {rules : List Kp340.Rule} {n s i j : Nat} {x : Int × Fr} (h : levelGo rules n s i j = some x) : 0 < x.1 := by
  unfold levelGo at h
  split at h
  · rename_i hp
    cases er : ratioAmong (choicesOf rules n) i j with
    | none => rw [er] at h; cases h
    | some q =>
      rw [er] at h
      cases h
      exact hp
  · cases h
theorem levelP_pos {rules : List Kp340.Rule} {n s : Nat} {x : Int × Fr} (h : levelP rules n s = some x) : 0 < x.1 := by
  unfold levelP at h
  obtain ⟨i, _, hi⟩ := List.exists_of_findSome?_eq_some h
  obtain ⟨j, _, hj⟩ := List.exists_of_findSome?_eq_some hi
  exact levelGo_pos hj
theorem levelAnsI_is {m : Net} (h : NetOk m) {s : Nat} (hs : s < m.n) : levelAnsI m s = match levelP m.rules m.n s with
    | none => [-33]
    | some x => [x.1, x.2.1, x.2.2] := by
  unfold levelAnsI
  rw [level_is h hs]
  cases e : levelP m.rules m.n s with
  | none => rfl
  | some x =>
    have := levelP_pos e
    show [((x.1.toNat : Nat) : Int), x.2.1, x.2.2] = [x.1, x.2.1, x.2.2]
    rw [Int.toNat_of_nonneg (by omega)]
/-- a new list of whole numbers -/
def GivesI (H : Hp) (l : List Int) (Q : VK) : Prop := ∀ H' p, Same H H' → H p = none → H' p = some (.lst (l.map V.int)) → Q (.ref p) H'
def spTold (K : PySem.W.Frag) : Sp := fun vs H Q _ => ∃ (x : V) (m : Net) (s : Nat), vs = [x, .int (m.n : Int), .int (s : Int)] ∧ Dp K H x (.list (m.rules.map eRule)) ∧ NetOk m ∧ s < m.n ∧ GivesI H (levelAnsI m s) Q
theorem ok_level_told (T : Tx K mg) : FnOk P w K mg base CX0 9 T.fLevelTold T.dLevelTold ["rules", "substances", "s"] (spTold K) := by
  refine T.oLevelTold.F.ok scLevelTold (fun vs H Q E h => ?_) (fun cdv A outer s H vs Q E hr h => ?_)
  · obtain ⟨x, m, s, rfl, _⟩ := h
    rfl
  · obtain ⟨x, m, sb, rfl, hx, hm, hs, g⟩ := h
    rw [levelAnsI_is hm hs] at g
    refine ⟨_, (pss_cons 
        (ps_set (i := 3) scLevelTold.nd rfl (.inl rfl) (pe_call (ok_level_of T) (hr.mono (by decide)) (by rfl) T.oLevelOf.g T.oLevelOf.F.kp T.oLevelOf.b .nil pass0 (pa_cons (pv 0) (pa_cons (pv 1) (pa_cons (pv 2) pa_nil)))))
      (pss_cons 
        (ps_if (pt_cmpR op_isN (pv 3) pe_non (nomark _))
          (pss_one 
            (ps_ret (pe_lst (pa_cons (pe_gi T.cNOT_TOLD) pa_nil)))) pss_nil)
      (pss_one 
        (ps_ret (pe_op op_cat (pe_lst (pa_cons (pe_ix (ixt K) (pv 3) pe_int (fun _ _ => rfl)) pa_nil)) (pe_callTy (clist K) (by rfl) T.list PyProof.Rows.boot_list (pa_cons (pe_ix (ixt K) (pv 3) pe_int (fun _ _ => rfl)) pa_nil))))))), ?_⟩
    refine ⟨_, rfl, _, rfl, _, rfl, x, m, sb, rfl, hx, hm, hs, fun H2 v s2 hv2 => ?_⟩
    cases er : levelP m.rules m.n sb with
    | none =>
      rw [er] at hv2 g
      cases hv2
      refine ⟨_, rfl, rfl, _, rfl, ite2 (fun _ => ?_) (fun z => absurd rfl z)⟩
      exact ⟨by show 1 ≤ sizeLine; decide, fun p np => g _ p (s2.trans (same_upd np)) (s2.free np) upd_same⟩
    | some x =>
      rw [er] at hv2 g
      obtain ⟨p0, xs0, rfl, hp0, hA0⟩ := Dp_tuple (show Dp K H2 v (.tuple [.int x.1, eF x.2]) from hv2)
      cases hA0 with
      | cons h1 hA0 =>
        cases hA0 with
        | cons h2 hA0 =>
          cases hA0
          cases h1
          obtain ⟨p1, rfl, hp1⟩ := Dp_F h2
          refine ⟨_, rfl, rfl, _, rfl, ite2 (fun z => absurd z (by rw [ref_non]; decide)) (fun _ => ?_)⟩
          refine ⟨_, rfl, p0, _, 0, _, rfl, rfl, hp0, at0, by show 1 ≤ sizeLine; decide, fun q1 nq1 => ?_⟩
          have s3 : Same H2 (upd H2 q1 (.lst [.int x.1])) := same_upd nq1
          refine ⟨_, rfl, p0, _, 1, _, rfl, rfl, SqT_keep (same_keepT s3) hp0, at1, p1, _, rfl, .inr (SqT_keep (same_keepT s3) hp1), fun q2 nq2 => ?_⟩
          have s4 : Same (upd H2 q1 (.lst [.int x.1])) (upd (upd H2 q1 (.lst [.int x.1])) q2 (.lst [.int x.2.1, .int x.2.2])) := same_upd nq2
          refine ⟨q1, q2, _, _, rfl, rfl, s4 _ _ upd_same, upd_same, by show 3 ≤ sizeLine; decide, fun q3 nq3 => ?_⟩
          exact g _ q3 (s2.trans (s3.trans (s4.trans (same_upd nq3)))) ((s2.trans (s3.trans s4)).free nq3) upd_same
theorem ok_level_m (T : Tx K mg) : FnOk P w K mg base CX0 10 T.fVesselLevel T.dVesselLevel ["self", "s"] (spLevelM K T.C) := by
  refine T.oVesselLevel.F.ok scVesselLevel (fun vs H Q E h => ?_) (fun cdv A outer s H vs Q E hr h => ?_)
  · obtain ⟨a, r, m, s, rfl, _⟩ := h
    rfl
  · obtain ⟨a, r, m, sb, rfl, hv, hm, g⟩ := h
    obtain ⟨dx, ha⟩ := hv.ins
    refine ⟨_, (pss_cons 
        (ps_if (pt_cmpR op_ge (pv 1) (pe_fld (pv 0) rfl) (nomark _))
          (pss_one 
            (ps_ret (pe_lst (pa_cons (pe_gi T.cNO_SUCH) pa_nil)))) pss_nil)
      (pss_one 
        (ps_ret (pe_call (ok_level_told T) (hr.mono (by decide)) (by rfl) T.oLevelTold.g T.oLevelTold.F.kp T.oLevelTold.b .nil pass0 (pa_cons (pe_fld (pv 0) rfl) (pa_cons (pe_fld (pv 0) rfl) (pa_cons (pv 1) pa_nil))))))), ?_⟩
    refine ⟨_, rfl, _, rfl, a, T.C, dx, _, _, rfl, ha, T.cl, T.nS, vF_s m r, _, _, rfl, rfl, _, rfl, ite2 (fun hc => ?_) (fun hc => ?_)⟩
    · have hc : (m.n : Int) ≤ (sb : Int) := of_decide_eq_true hc
      rw [stepA_level_no (by omega)] at g
      exact ⟨by show 1 ≤ sizeLine; decide, fun p np => gives_same g hv (same_upd np) np upd_same⟩
    · have hc : ¬ (m.n : Int) ≤ (sb : Int) := fun z => hc (decide_eq_true z)
      have hs : sb < m.n := by omega
      rw [stepA_level hs] at g
      exact ⟨_, rfl, a, T.C, dx, _, _, rfl, ha, T.cl, T.nR, vF_r m r, _, rfl, a, T.C, dx, _, _, rfl, ha, T.cl, T.nS, vF_s m r, _, rfl, .ref r, m, sb, rfl, hv.dp, hm, hs, fun H2 p s2 np hp => gives_same g hv s2 np hp⟩
/-! ### ifspeed -/
def spIfspeed (K : PySem.W.Frag) (C : Addr) : Sp := fun vs H Q _ => ∃ (a r : Addr) (m : Net) (j x y s : Nat), vs = [.ref a, .int (j : Int), .int (x : Int), .int (y : Int), .int (s : Int)] ∧ VAt K C H a r m ∧ NetOk m ∧ GivesM K C H a r (stepA m (.ifSpeed j x y s)).1 (stepA m (.ifSpeed j x y s)).2 Q
theorem ok_ifspeed_m (T : Tx K mg) : FnOk P w K mg base CX0 10 T.fVesselIfspeed T.dVesselIfspeed ["self", "j", "a", "b", "s"] (spIfspeed K T.C) := by
  refine T.oVesselIfspeed.F.ok scVesselIfspeed (fun vs H Q E h => ?_) (fun cdv A outer s H vs Q E hr h => ?_)
  · obtain ⟨a, r, m, j, x, y, s, rfl, _⟩ := h
    rfl
  · obtain ⟨a, r, m, j, x, y, sb, rfl, hv, hm, g⟩ := h
    obtain ⟨dx, ha⟩ := hv.ins
    obtain ⟨vs, h2, h3⟩ := hv.lst
    have lv : vs.length = m.rules.length := by rw [DpAll_len h3, List.length_map]
    refine ⟨_, (pss_cons 
        (ps_if (PW.pt (pw_or (pt_cmpR op_ge (pv 1) (pe_callB (clen K) (by rfl) T.len PySem.boot_len (pa_cons (pe_fld (pv 0) rfl) pa_nil)) (nomark _)) (pw_or1 (pt_cmpR op_ge (pv 4) (pe_fld (pv 0) rfl) (nomark _)))))
          (pss_one 
            (ps_ret (pe_lst (pa_cons (pe_gi T.cNO_SUCH) pa_nil)))) pss_nil)
      (pss_cons 
        (ps_if (pt_not (pt_val (pe_call (ok_makes_speed T) (hr.mono (by decide)) (by rfl) T.oMakesSpeed.g T.oMakesSpeed.F.kp T.oMakesSpeed.b .nil pass0 (pa_cons (pv 2) (pa_cons (pv 3) pa_nil)))))
          (pss_one 
            (ps_ret (pe_lst (pa_cons (pe_gi T.cWRONG) pa_nil)))) pss_nil)
      (pss_one 
        (ps_ret (pe_call (ok_level_told T) (hr.mono (by decide)) (by rfl) T.oLevelTold.g T.oLevelTold.F.kp T.oLevelTold.b .nil pass0 (pa_cons (pe_call (ok_rules_at T) (hr.mono (by decide)) (by rfl) T.oRulesAt.g T.oRulesAt.F.kp T.oRulesAt.b .nil pass0 (pa_cons (pe_fld (pv 0) rfl) (pa_cons (pv 1) (pa_cons (pe_call (ok_lowest T) (hr.mono (by decide)) (by rfl) T.oLowest.g T.oLowest.F.kp T.oLowest.b .nil pass0 (pa_cons (pv 2) (pa_cons (pv 3) pa_nil))) pa_nil)))) (pa_cons (pe_fld (pv 0) rfl) (pa_cons (pv 4) pa_nil)))))))), ?_⟩
    have no : (m.rules.length ≤ j ∨ m.n ≤ sb) → ∀ p, H p = none → Q (.ref p) (upd H p (.lst [.int (-2)])) := fun hc p np => by
      rw [stepA_ifSpeed_no hc] at g
      exact gives_same g hv (same_upd np) np upd_same
    refine ⟨_, rfl, _, rfl, a, T.C, dx, _, _, rfl, ha, T.cl, T.nR, vF_r m r, r, vs, rfl, .inl (SqL.of h2), _, _, rfl, rfl, _, rfl, ite2 (fun hc => ?_) (fun hc => ?_)⟩
    · have hc : (vs.length : Int) ≤ (j : Int) := of_decide_eq_true hc
      refine ite2 (fun _ => ?_) (fun z => absurd rfl z)
      exact ⟨by show 1 ≤ sizeLine; decide, no (.inl (by omega))⟩
    · have hc : ¬ (vs.length : Int) ≤ (j : Int) := fun z => hc (decide_eq_true z)
      have hj : j < m.rules.length := by omega
      refine ⟨_, rfl, _, rfl, a, T.C, dx, _, _, rfl, ha, T.cl, T.nS, vF_s m r, _, _, rfl, rfl, _, rfl, ite2 (fun hc1 => ?_) (fun hc1 => ?_)⟩
      · have hc1 : (m.n : Int) ≤ (sb : Int) := of_decide_eq_true hc1
        exact ⟨by show 1 ≤ sizeLine; decide, no (.inr (by omega))⟩
      · have hc1 : ¬ (m.n : Int) ≤ (sb : Int) := fun z => hc1 (decide_eq_true z)
        have hs : sb < m.n := by omega
        refine ⟨_, rfl, _, rfl, x, y, rfl, _, rfl, ite2 (fun hc2 => ?_) (fun hc2 => ?_)⟩
        · have hc2 : Kp340.okSpeed x y = false := by simpa using hc2
          rw [stepA_ifSpeed_bad hj hs hc2] at g
          exact ⟨by show 1 ≤ sizeLine; decide, fun p np => gives_same g hv (same_upd np) np upd_same⟩
        · have hc2 : Kp340.okSpeed x y = true := by simpa using hc2
          rw [stepA_ifSpeed hj hs hc2] at g
          have hxy := hc2
          unfold Kp340.okSpeed at hxy
          simp only [Bool.and_eq_true, decide_eq_true_eq] at hxy
          refine ⟨_, rfl, a, T.C, dx, _, _, rfl, ha, T.cl, T.nR, vF_r m r, _, rfl, _, rfl, _, rfl, (x : Int), (y : Int), rfl, by omega, speed_below hxy.2, fun H1 pf s1 npf hpf => ?_⟩
          refine ⟨.ref r, .ref pf, m, j, Kp340.fr (x : Int) (y : Int), rfl, Dp_mono s1 _ _ hv.dp, F_of hpf, hj, hm.few, fun H2 r' xs s2 nr' hr' hxs => ?_⟩
          have u := s1.trans s2
          refine ⟨_, rfl, a, T.C, dx, _, _, rfl, u _ _ ha, T.cl, T.nS, vF_s m r, _, rfl, .ref r', netAt m j (Kp340.fr (x : Int) (y : Int)), sb, rfl, .lst (SqL.of hr') hxs, speed_ok hm hj hc2, hs, fun H3 p s3 np hp => ?_⟩
          exact gives_same g hv (u.trans s3) (u.free np) hp
end
end Sl

/-! The vessel's relations; the calls in their list: numbers_at, row_at, place_behind. -/
namespace Sl
open PySem PySem.Spec PyProof.Rows L2
open Kp340 (Fr Mix Net)
section
variable {P : Program} {w : World} {K : PySem.W.Frag} {mg : Str → Option Value} {base : Heap}
/-! ### relations -/
def flatR (r : Row) : List Int := r.flatMap fun x => [x.1, x.2]
def spRelM (K : PySem.W.Frag) (C : Addr) : Sp := fun vs H Q _ => ∃ (a r : Addr) (m : Net), vs = [.ref a] ∧ VAt K C H a r m ∧ NetOk m ∧ GivesM K C H a r (stepA m .relations).1 (stepA m .relations).2 Q
theorem flatR_len (r : Row) : (flatR r).length = 2 * r.length := by
  unfold flatR
  induction r with
  | nil => rfl
  | cons x r ih =>
    have : (x :: r).length = r.length + 1 := rfl
    rw [List.flatMap_cons, List.length_append, ih, this]
    show 2 + _ = _
    omega
theorem flatRs_len {rs : List Row} {n : Nat} (h : ∀ r ∈ rs, r.length ≤ n) : (rs.flatMap flatR).length ≤ 2 * n * rs.length := by
  induction rs with
  | nil => exact Nat.zero_le _
  | cons x rs ih =>
    have h1 := h x List.mem_cons_self
    have h2 := ih fun r hr => h r (List.mem_cons_of_mem _ hr)
    rw [List.flatMap_cons, List.length_append, flatR_len, List.length_cons, Nat.mul_succ]
    omega
theorem ok_relations_m (T : Tx K mg) : FnOk P w K mg base CX0 7 T.fVesselRelations T.dVesselRelations ["self"] (spRelM K T.C) := by
  refine T.oVesselRelations.F.ok scVesselRelations (fun vs H Q E h => ?_) (fun cdv A outer s H vs Q E hr h => ?_)
  · obtain ⟨a, r, m, rfl, _⟩ := h
    rfl
  · obtain ⟨a, r, m, rfl, hv, hm, g⟩ := h
    obtain ⟨dx, ha⟩ := hv.ins
    obtain ⟨r1, r2⟩ := rel_rows hm
    have ltk := taken_small m hm
    rw [stepA_relations, ← relations_is hm] at g
    have hrl : ∀ r ∈ relationsOf m.rules m.n, r.length ≤ 16 := fun r hr => by rw [(r1 r hr).1]; exact ltk
    refine ⟨_, (pss_cons 
        (ps_set (i := 1) scVesselRelations.nd rfl (.inl rfl) (pe_call (ok_relations_of T) (hr.mono (by decide)) (by rfl) T.oRelationsOf.g T.oRelationsOf.F.kp T.oRelationsOf.b .nil pass0 (pa_cons (pe_fld (pv 0) rfl) (pa_cons (pe_fld (pv 0) rfl) pa_nil))))
      (pss_cons 
        (ps_set (i := 2) scVesselRelations.nd rfl (.inl rfl) (pe_lst (pa_cons (pe_callB (clen K) (by rfl) T.len PySem.boot_len (pa_cons (pv 1) pa_nil)) pa_nil)))
      (pss_cons 
        (ps_for PassesOwn.never rfl (pi_list (pv 1)) (pg_name (i := 3) scVesselRelations.nd rfl (.inl rfl))
          (pss_one 
            (ps_for PassesOwn.never rfl (pi_list (pv 3)) (pg_name (i := 4) scVesselRelations.nd rfl (.inl rfl))
              (pss_one 
                (ps_expr (pe_bm PySem.F.plainAttrs_list PySem.F.slot_list_extend PySem.F.type_list_extend (mt_extendT K) (pv 2) (pa_cons (pv 4) pa_nil)))))))
      (pss_one 
        (ps_ret (pv 2)))))), ?_⟩
    refine ⟨_, rfl, a, T.C, dx, _, _, rfl, ha, T.cl, T.nR, vF_r m r, _, rfl, a, T.C, dx, _, _, rfl, ha, T.cl, T.nS, vF_s m r, .ref r, m, rfl, hv.dp, hm, fun H1 pf fs s1 npf hpf hfs => ?_⟩
    generalize relationsOf m.rules m.n = rels at *
    have lf : fs.length = rels.length := by rw [DpAll_len hfs, List.length_map]
    refine ⟨_, rfl, pf, fs, rfl, .inl (SqL.of hpf), by show 1 ≤ sizeLine; decide, fun pt npt => ?_⟩
    have s2 : Same H1 (upd H1 pt (.lst [.int (fs.length : Int)])) := same_upd npt
    refine ⟨_, rfl, pf, rfl, ⟨_, SqL.of (s2 _ _ hpf)⟩, for_list (K := K) (a := pf) (xs := fs) (fun k σ H' => ∃ y3 y4, σ = [some (.ref a), some (.ref pf), some (.ref pt), y3, y4] ∧ Same H1 H' ∧ H' pt = some (.lst (((rels.length : Int) :: (rels.take k).flatMap flatR).map V.int)))
      ⟨none, none, rfl, s2, by rw [upd_same, lf]; rfl⟩ (fun k σ H' _ ⟨_, _, _, s5, _⟩ => SqL.of (s5 _ _ hpf)) ?_ ?_⟩
    · rintro k v σ H' hk ⟨y3, y4, rfl, sH, hpt⟩
      obtain ⟨e, he, hde⟩ := DpAll_at hfs hk
      obtain ⟨row, hrow, rfl⟩ := map_at he
      obtain ⟨pr, xr, rfl, hSr, hAr⟩ := Dp_list hde
      have hkl : k < rels.length := (List.getElem?_eq_some_iff.mp hrow).1
      have lrow := hrl row (List.mem_of_getElem? hrow)
      have lx : xr.length = row.length := by rw [DpAll_len hAr, List.length_map]
      have lfl : ((rels.take k).flatMap flatR).length ≤ 2 * 16 * 4 := by
        have h1 := flatRs_len (rs := rels.take k) (n := 16) fun r hr => hrl r (List.mem_of_mem_take hr)
        have h2 : (rels.take k).length ≤ 4 := by rw [List.length_take]; omega
        exact Nat.le_trans h1 (Nat.mul_le_mul_left _ h2)
      refine ⟨_, rfl, pr, rfl, ⟨_, Same.seq sH hSr⟩, for_list (K := K) (a := pr) (xs := xr) (fun i σ H2 => ∃ y4, σ = [some (.ref a), some (.ref pf), some (.ref pt), some (.ref pr), y4] ∧ Same H1 H2 ∧ H2 pt = some (.lst (((rels.length : Int) :: ((rels.take k).flatMap flatR ++ flatR (row.take i))).map V.int)))
        ⟨y4, rfl, sH, by rw [hpt]; show _ = some (HO.lst (((rels.length : Int) :: ((rels.take k).flatMap flatR ++ [])).map V.int)); rw [List.append_nil]⟩ (fun i σ H2 _ ⟨_, _, h, _⟩ => Same.seq h hSr) ?_ ?_⟩
      · rintro i v σ H2 hi ⟨y4, rfl, sH2, hpt2⟩
        obtain ⟨e, he, hde2⟩ := DpAll_at (DpAll_mono sH2 _ _ hAr) hi
        obtain ⟨x, hx, rfl⟩ := map_at he
        obtain ⟨px, rfl, hpx⟩ := Dp_F hde2
        have lt2 : (flatR (row.take i)).length ≤ 32 := by
          rw [flatR_len, List.length_take]
          omega
        refine ⟨_, rfl, .inl ⟨rfl, _, SqL.of hpt2⟩, _, rfl, pt, px, _, _, rfl, rfl, hpt2, hpx, ?_, ?_⟩
        · rw [List.length_map, List.length_cons, List.length_append]
          exact Nat.le_of_lt (smallS (show (((rels.take k).flatMap flatR).length + (flatR (row.take i)).length + 1) + 2 ≤ 1000 by omega))
        · refine ⟨_, rfl, same_mut sH2 npt, ?_⟩
          rw [upd_same]
          refine congrArg (fun z => some (HO.lst z)) ?_
          have : flatR (row.take (i + 1)) = flatR (row.take i) ++ [x.1, x.2] := by
            unfold flatR
            rw [take_at hx, List.flatMap_append]
            rfl
          rw [this, ← List.append_assoc, List.map_cons, List.map_cons, List.map_append (l₂ := [x.1, x.2])]
          rfl
      · rintro σ H2 ⟨y4, rfl, sH2, hpt2⟩
        rw [lx, List.take_length] at hpt2
        refine ⟨_, _, rfl, sH2, ?_⟩
        have : (rels.take (k + 1)).flatMap flatR = (rels.take k).flatMap flatR ++ flatR row := by
          rw [take_at hrow, List.flatMap_append, List.flatMap_cons, List.flatMap_nil, List.append_nil]
        rw [this]
        exact hpt2
    · rintro σ H' ⟨y3, y4, rfl, sH, hpt⟩
      rw [lf, List.take_length] at hpt
      refine ⟨_, rfl, g H' pt r (same_frame (s1.trans sH)) (hv.same (s1.trans sH)) (.inl rfl) (s1.free npt) hpt⟩
end
end Sl

/-! The calls in their list: numbers_at, row_at, place_behind. -/
namespace Sl
open PySem PySem.Spec PyProof.Rows L2
open Kp340 (Fr Mix Net)
def nV (l : List Nat) : List V := l.map fun (k : Nat) => V.int (k : Int)
section
variable {P : Program} {w : World} {K : PySem.W.Frag} {mg : Str → Option Value} {base : Heap}
theorem nV_at {N : List Nat} {k c : Nat} (h : N[k]? = some c) : atI (nV N) (k : Int) = some (.int (c : Int)) := by
  refine atI_of ?_
  unfold nV
  rw [List.getElem?_map, h]
  rfl
theorem cut_both (xs : List V) {i j : Nat} (hi : i ≤ xs.length) (hj : j ≤ xs.length) : cutV xs (some (i : Int)) (some (j : Int)) = (xs.drop i).take (j - i) := by
  unfold cutV
  rw [show HT.sIx xs.length 0 (some (i : Int)) = min i xs.length from HT.sIx_nat xs.length 0 i, show HT.sIx xs.length xs.length (some (j : Int)) = min j xs.length from HT.sIx_nat xs.length xs.length j, Nat.min_eq_left hi, Nat.min_eq_left hj]
theorem num_at (T : Tx K mg) (H : Hp) {c : Nat} (hc : c ≤ 16) : ∃ xs, SqT K H T.aNUMBERS xs ∧ atI xs (c : Int) = some (.int (numOf c : Int)) := by
  refine ⟨_, T.kNUMBERS H, ?_⟩
  have : c = 0 ∨ c = 1 ∨ c = 2 ∨ c = 3 ∨ c = 4 ∨ c = 5 ∨ c = 6 ∨ c = 7 ∨ c = 8 ∨ c = 9 ∨ c = 10 ∨ c = 11 ∨ c = 12 ∨ c = 13 ∨ c = 14 ∨ c = 15 ∨ c = 16 := by omega
  rcases this with rfl | rfl | rfl | rfl | rfl | rfl | rfl | rfl | rfl | rfl | rfl | rfl | rfl | rfl | rfl | rfl | rfl <;> exact atI_of rfl
theorem row_in (T : Tx K mg) (H : Hp) (c : Nat) : ∃ xs, SqT K H T.aWITH_ROW xs ∧ xs.all flatV = true ∧ inV (.int (c : Int)) xs = hasRow c := ⟨_, T.kWITH_ROW H, rfl, inV_nats c [1, 14, 15, 16]⟩
theorem CallAt.at {N : List Nat} {place c : Nat} {nums row : List Nat} (h : CallAt N place c nums row) : N[place]? = some c := by
  obtain ⟨pre, post, rfl, rfl⟩ := h.split
  rw [List.getElem?_append_right (Nat.le_refl _), Nat.sub_self]
  rfl
theorem CallAt.len {N : List Nat} {place c : Nat} {nums row : List Nat} (h : CallAt N place c nums row) : place + (flatC c nums row).length ≤ N.length := by
  obtain ⟨pre, post, rfl, rfl⟩ := h.split
  rw [List.length_append, List.length_append]
  omega
theorem flatC_len (c : Nat) (nums row : List Nat) : (flatC c nums row).length = 1 + nums.length + (rowC c row).length := by
  unfold flatC
  rw [List.length_cons, List.length_append]
  omega
theorem CallAt.numbers {N : List Nat} {place c : Nat} {nums row : List Nat} (h : CallAt N place c nums row) : (N.drop (place + 1)).take (numOf c) = nums := by
  obtain ⟨pre, post, rfl, rfl⟩ := h.split
  rw [← List.drop_drop, List.drop_left]
  show List.take (numOf c) ((nums ++ rowC c row) ++ post) = nums
  rw [← h.nums, List.append_assoc, List.take_left]
theorem CallAt.behind {N : List Nat} {place c : Nat} {nums row : List Nat} (h : CallAt N place c nums row) : ∃ post, N.drop (place + 1 + numOf c) = rowC c row ++ post := by
  obtain ⟨pre, post, rfl, rfl⟩ := h.split
  refine ⟨post, ?_⟩
  rw [Nat.add_assoc, ← List.drop_drop, List.drop_left, Nat.add_comm 1, ← h.nums]
  show List.drop nums.length ((nums ++ rowC c row) ++ post) = _
  rw [List.append_assoc, List.drop_left]
/-! ### numbers_at -/
def spNumbersAt (K : PySem.W.Frag) : Sp := fun vs H Q _ => ∃ (x : V) (N : List Nat) (place c : Nat) (nums row : List Nat), vs = [x, .int (place : Int)] ∧ Dp K H x (.list (eInts N)) ∧ CallAt N place c nums row ∧ GivesL K H (eInts nums) Q
theorem ok_numbers_at (T : Tx K mg) : FnOk P w K mg base CX0 1 T.fNumbersAt T.dNumbersAt ["calls", "place"] (spNumbersAt K) := by
  refine T.oNumbersAt.F.ok scNumbersAt (fun vs H Q E h => ?_) (fun cdv A outer s H vs Q E hr h => ?_)
  · obtain ⟨x, N, place, c, nums, row, rfl, _⟩ := h
    rfl
  · obtain ⟨x, N, place, c, nums, row, rfl, hx, hc, q⟩ := h
    obtain ⟨a, xs, rfl, hS, hA⟩ := Dp_list hx
    have e := eInts_is hA
    subst e
    obtain ⟨ts, hT, ht⟩ := num_at T H hc.le
    have hl := hc.len
    rw [flatC_len, hc.nums] at hl
    have hl8 := hc.few
    refine ⟨_, (pss_cons 
        (ps_set (i := 2) scNumbersAt.nd rfl (.inl rfl) (pe_op op_add (pv 1) pe_int))
      (pss_one 
        (ps_ret (pe_slice (sll K) (pv 0) (po_some (pv 2)) (po_some (pe_op op_add (pv 2) (pe_ix (ixt K) (pe_gr T.gNUMBERS) (pe_ix (ixl K) (pv 0) (pv 1) (fun _ _ => rfl)) (fun _ _ => rfl)))))))), ?_⟩
    refine ⟨_, rfl, _, _, rfl, rfl, ?_⟩
    refine ⟨_, rfl, _, rfl, _, rfl, _, rfl, _, rfl, _, rfl, a, _, _, _, rfl, rfl, hS, nV_at hc.at, T.aNUMBERS, ts, _, _, rfl, rfl, hT, ht, _, _, rfl, rfl, _, rfl, a, _, rfl, hS, fun p np => ?_⟩
    rw [show (place : Int) + 1 + (numOf c : Int) = ((place + 1 + numOf c : Nat) : Int) by omega, show (place : Int) + 1 = ((place + 1 : Nat) : Int) from rfl] at *
    have ec : cutV (N.map fun (k : Nat) => V.int (k : Int)) (some ((place + 1 : Nat) : Int)) (some ((place + 1 + numOf c : Nat) : Int)) = nums.map fun (k : Nat) => V.int (k : Int) := by
      rw [cut_both _ (by rw [List.length_map]; omega) (by rw [List.length_map]; omega), ← List.map_drop, ← List.map_take, Nat.add_sub_cancel_left, hc.numbers]
    rw [ec]
    exact q _ p _ (same_upd np) np upd_same (DpNats _ nums)
/-! ### row_at -/
def spRowAt (K : PySem.W.Frag) : Sp := fun vs H Q _ => ∃ (x : V) (N : List Nat) (place c : Nat) (nums row : List Nat), vs = [x, .int (place : Int)] ∧ Dp K H x (.list (eInts N)) ∧ CallAt N place c nums row ∧ GivesL K H (eInts (if hasRow c = true then row else [])) Q
theorem ok_row_at (T : Tx K mg) : FnOk P w K mg base CX0 1 T.fRowAt T.dRowAt ["calls", "place"] (spRowAt K) := by
  refine T.oRowAt.F.ok scRowAt (fun vs H Q E h => ?_) (fun cdv A outer s H vs Q E hr h => ?_)
  · obtain ⟨x, N, place, c, nums, row, rfl, _⟩ := h
    rfl
  · obtain ⟨x, N, place, c, nums, row, rfl, hx, hc, q⟩ := h
    obtain ⟨a, xs, rfl, hS, hA⟩ := Dp_list hx
    have e := eInts_is hA
    subst e
    obtain ⟨ts, hT, ht⟩ := num_at T H hc.le
    obtain ⟨rs, hR, hRf, hRi⟩ := row_in T H c
    have hl := hc.len
    rw [flatC_len, hc.nums] at hl
    have hl8 := hc.few
    refine ⟨_, (pss_cons 
        (ps_if (pt_cmpR (notinseq K) (pe_ix (ixl K) (pv 0) (pv 1) (fun _ _ => rfl)) (pe_gr T.gWITH_ROW) (by rfl))
          (pss_one 
            (ps_ret (pe_lst pa_nil))) pss_nil)
      (pss_cons 
        (ps_set (i := 2) scRowAt.nd rfl (.inl rfl) (pe_op op_add (pe_op op_add (pv 1) pe_int) (pe_ix (ixt K) (pe_gr T.gNUMBERS) (pe_ix (ixl K) (pv 0) (pv 1) (fun _ _ => rfl)) (fun _ _ => rfl))))
      (pss_one 
        (ps_ret (pe_slice (sll K) (pv 0) (po_some (pe_op op_add (pv 2) pe_int)) (po_some (pe_op op_add (pe_op op_add (pv 2) pe_int) (pe_ix (ixl K) (pv 0) (pv 2) (fun _ _ => rfl))))))))), ?_⟩
    refine ⟨_, rfl, _, rfl, a, _, _, _, rfl, rfl, hS, nV_at hc.at, T.aWITH_ROW, rs, rfl, .inr hR, rfl, hRf, _, rfl, ?_⟩
    show if (!inV (.int (c : Int)) rs) = true then _ else _
    rw [hRi]
    refine ite2 (fun hn => ?_) (fun hn => ?_)
    · have hn : hasRow c = false := by simpa using hn
      rw [hn] at q
      exact ⟨Nat.zero_le _, fun p np => q _ p _ (same_upd np) np upd_same .nil⟩
    · have hn : hasRow c = true := by simpa using hn
      rw [hn, if_pos rfl] at q
      obtain ⟨post, hb⟩ := hc.behind
      have er : rowC c row = row.length :: row := by
        unfold rowC
        rw [if_pos hn]
      rw [er] at hb hl
      have hat : N[place + 1 + numOf c]? = some row.length := by
        have := congrArg (fun l => l[0]?) hb
        simpa using this
      refine ⟨_, rfl, _, _, rfl, rfl, _, rfl, _, rfl, a, _, _, _, rfl, rfl, hS, nV_at hc.at, T.aNUMBERS, ts, _, _, rfl, rfl, hT, ht, _, _, rfl, rfl, ?_⟩
      dsimp only
      rw [show (place : Int) + 1 + (numOf c : Int) = ((place + 1 + numOf c : Nat) : Int) by omega]
      refine ⟨_, rfl, _, rfl, _, _, rfl, rfl, _, rfl, _, rfl, _, _, rfl, rfl, _, rfl, _, rfl, a, _, _, _, rfl, rfl, hS, nV_at hat, _, _, rfl, rfl, _, rfl, a, _, rfl, hS, fun p np => ?_⟩
      rw [show ((place + 1 + numOf c : Nat) : Int) + 1 + (row.length : Int) = ((place + 1 + numOf c + 1 + row.length : Nat) : Int) by omega, show ((place + 1 + numOf c : Nat) : Int) + 1 = ((place + 1 + numOf c + 1 : Nat) : Int) from rfl] at *
      have hl2 : (row.length :: row).length = row.length + 1 := rfl
      have ec : cutV (N.map fun (k : Nat) => V.int (k : Int)) (some ((place + 1 + numOf c + 1 : Nat) : Int)) (some ((place + 1 + numOf c + 1 + row.length : Nat) : Int)) = row.map fun (k : Nat) => V.int (k : Int) := by
        rw [cut_both _ (by rw [List.length_map]; omega) (by rw [List.length_map]; omega), ← List.map_drop, ← List.map_take, Nat.add_sub_cancel_left, ← List.drop_drop, hb]
        show List.map _ (List.take row.length (row ++ post)) = _
        rw [List.take_left]
      rw [ec]
      exact q _ p _ (same_upd np) np upd_same (DpNats _ row)
/-! ### place_behind -/
def spBehind (K : PySem.W.Frag) : Sp := fun vs H Q _ => ∃ (x : V) (N : List Nat) (place c : Nat) (nums row : List Nat), vs = [x, .int (place : Int)] ∧ Dp K H x (.list (eInts N)) ∧ CallAt N place c nums row ∧ Q (.int ((place + (flatC c nums row).length : Nat) : Int)) H
theorem ok_place_behind (T : Tx K mg) : FnOk P w K mg base CX0 1 T.fPlaceBehind T.dPlaceBehind ["calls", "place"] (spBehind K) := by
  refine T.oPlaceBehind.F.ok scPlaceBehind (fun vs H Q E h => ?_) (fun cdv A outer s H vs Q E hr h => ?_)
  · obtain ⟨x, N, place, c, nums, row, rfl, _⟩ := h
    rfl
  · obtain ⟨x, N, place, c, nums, row, rfl, hx, hc, q⟩ := h
    obtain ⟨a, xs, rfl, hS, hA⟩ := Dp_list hx
    have e := eInts_is hA
    subst e
    obtain ⟨ts, hT, ht⟩ := num_at T H hc.le
    obtain ⟨rs, hR, hRf, hRi⟩ := row_in T H c
    rw [flatC_len, hc.nums] at q
    refine ⟨_, (pss_cons 
        (ps_set (i := 2) scPlaceBehind.nd rfl (.inl rfl) (pe_op op_add (pe_op op_add (pv 1) pe_int) (pe_ix (ixt K) (pe_gr T.gNUMBERS) (pe_ix (ixl K) (pv 0) (pv 1) (fun _ _ => rfl)) (fun _ _ => rfl))))
      (pss_cons 
        (ps_if (pt_cmpR (inseq K) (pe_ix (ixl K) (pv 0) (pv 1) (fun _ _ => rfl)) (pe_gr T.gWITH_ROW) (by rfl))
          (pss_one 
            (ps_set (i := 2) scPlaceBehind.nd rfl (.inl rfl) (pe_op op_add (pe_op op_add (pv 2) pe_int) (pe_ix (ixl K) (pv 0) (pv 2) (fun _ _ => rfl))))) pss_nil)
      (pss_one 
        (ps_ret (pv 2))))), ?_⟩
    refine ⟨_, rfl, _, _, rfl, rfl, _, rfl, _, rfl, a, _, _, _, rfl, rfl, hS, nV_at hc.at, T.aNUMBERS, ts, _, _, rfl, rfl, hT, ht, _, _, rfl, rfl, ?_⟩
    dsimp only
    rw [show (place : Int) + 1 + (numOf c : Int) = ((place + 1 + numOf c : Nat) : Int) by omega]
    refine ⟨_, rfl, _, rfl, a, _, _, _, rfl, rfl, hS, nV_at hc.at, T.aWITH_ROW, rs, rfl, .inr hR, rfl, hRf, _, rfl, ?_⟩
    show if inV (.int (c : Int)) rs = true then _ else _
    rw [hRi]
    refine ite2 (fun hn => ?_) (fun hn => ?_)
    · obtain ⟨post, hb⟩ := hc.behind
      have er : rowC c row = row.length :: row := by
        unfold rowC
        rw [if_pos hn]
      rw [er] at hb q
      have hat : N[place + 1 + numOf c]? = some row.length := by
        have := congrArg (fun l => l[0]?) hb
        simpa using this
      refine ⟨_, rfl, _, _, rfl, rfl, _, rfl, _, rfl, a, _, _, _, rfl, rfl, hS, nV_at hat, _, _, rfl, rfl, ?_⟩
      refine ⟨_, rfl, ?_⟩
      have hl2 : (row.length :: row).length = row.length + 1 := rfl
      rw [hl2] at q
      dsimp only
      rw [show ((place + 1 + numOf c : Nat) : Int) + 1 + (row.length : Int) = ((place + (1 + numOf c + (row.length + 1)) : Nat) : Int) by omega]
      exact q
    · have er : rowC c row = [] := by
        unfold rowC
        rw [if_neg hn]
      rw [er] at q
      refine ⟨_, rfl, ?_⟩
      rw [show ((place + 1 + numOf c : Nat) : Int) = ((place + (1 + numOf c + ([] : List Nat).length) : Nat) : Int) by show _ = ((place + (1 + numOf c + 0) : Nat) : Int); omega]
      exact q
end
end Sl

/-! What answer promises. -/
namespace Sl
open PySem PySem.Spec PyProof.Rows L2
open Kp340 (Fr Mix Net)
def spAnswer (K : PySem.W.Frag) (C : Addr) : Sp := fun vs H Q _ => ∃ (a r : Addr) (st : Option Net) (c : Nat) (nums row : List Nat) (x y : V), vs = [.ref a, .int (c : Int), x, y] ∧ VAt K C H a r (net st) ∧ StOk st ∧ c ≤ 16 ∧ nums.length = numOf c ∧ (hasRow c = true → row.length ≤ 800) ∧
  Dp K H x (.list (eInts nums)) ∧ Dp K H y (.list (eInts (if hasRow c = true then row else []))) ∧ GivesM K C H a r (net (ansOf st c nums row).1) (ansOf st c nums row).2 Q
end Sl

/-! The vessel's calls: pairs, same, ends, hides, weight, steady, met. -/
namespace Sl
open PySem PySem.Spec PyProof.Rows L2
open Kp340 (Fr Mix Net)
section
variable {P : Program} {w : World} {K : PySem.W.Frag} {mg : Str → Option Value} {base : Heap}
/-- what a call without arguments promises -/
def spM0 (K : PySem.W.Frag) (C : Addr) (c : Kp343.Call) : Sp := fun vs H Q _ => ∃ (a r : Addr) (m : Net), vs = [.ref a] ∧ VAt K C H a r m ∧ NetOk m ∧ GivesM K C H a r (stepA m c).1 (stepA m c).2 Q
/-! ### pairs -/
def flatP (x : Pair3) : List Int := [(x.1 : Int), (x.2.1 : Int), (x.2.2 : Int)]
theorem flatP_len (l : List Pair3) : (l.flatMap flatP).length = 3 * l.length := by
  induction l with
  | nil => rfl
  | cons x l ih =>
    rw [List.flatMap_cons, List.length_append, ih, List.length_cons]
    show 3 + _ = _
    omega
theorem ok_pairs_m (T : Tx K mg) : FnOk P w K mg base CX0 8 T.fVesselPairs T.dVesselPairs ["self"] (spM0 K T.C .pairs) := by
  refine T.oVesselPairs.F.ok scVesselPairs (fun vs H Q E h => ?_) (fun cdv A outer s H vs Q E hr h => ?_)
  · obtain ⟨a, r, m, rfl, _⟩ := h
    rfl
  · obtain ⟨a, r, m, rfl, hv, hm, g⟩ := h
    obtain ⟨dx, ha⟩ := hv.ins
    have lp := pairsOf_len hm
    rw [stepA_pairs] at g
    refine ⟨_, (pss_cons 
        (ps_set (i := 1) scVesselPairs.nd rfl (.inl rfl) (pe_call (ok_pairs_of T) (hr.mono (by decide)) (by rfl) T.oPairsOf.g T.oPairsOf.F.kp T.oPairsOf.b .nil pass0 (pa_cons (pe_fld (pv 0) rfl) (pa_cons (pe_fld (pv 0) rfl) pa_nil))))
      (pss_cons 
        (ps_set (i := 2) scVesselPairs.nd rfl (.inl rfl) (pe_lst (pa_cons (pe_callB (clen K) (by rfl) T.len PySem.boot_len (pa_cons (pv 1) pa_nil)) pa_nil)))
      (pss_cons 
        (ps_for PassesOwn.never rfl (pi_list (pv 1)) (pg_name (i := 3) scVesselPairs.nd rfl (.inl rfl))
          (pss_one 
            (ps_expr (pe_bm PySem.F.plainAttrs_list PySem.F.slot_list_extend PySem.F.type_list_extend (mt_extendT K) (pv 2) (pa_cons (pv 3) pa_nil)))))
      (pss_one 
        (ps_ret (pv 2)))))), ?_⟩
    refine ⟨_, rfl, a, T.C, dx, _, _, rfl, ha, T.cl, T.nR, vF_r m r, _, rfl, a, T.C, dx, _, _, rfl, ha, T.cl, T.nS, vF_s m r, .ref r, m, rfl, hv.dp, hm, fun H1 pf fs s1 npf hpf hfs => ?_⟩
    generalize Kp343.pairsOf m = ps at *
    have lf : fs.length = ps.length := by rw [DpAll_len hfs, List.length_map]
    refine ⟨_, rfl, pf, fs, rfl, .inl (SqL.of hpf), by show 1 ≤ sizeLine; decide, fun pt npt => ?_⟩
    have s2 : Same H1 (upd H1 pt (.lst [.int (fs.length : Int)])) := same_upd npt
    refine ⟨_, rfl, pf, rfl, ⟨_, SqL.of (s2 _ _ hpf)⟩, for_list (K := K) (a := pf) (xs := fs) (fun k σ H' => ∃ y3, σ = [some (.ref a), some (.ref pf), some (.ref pt), y3] ∧ Same H1 H' ∧ H' pt = some (.lst (((ps.length : Int) :: (ps.take k).flatMap flatP).map V.int)))
      ⟨none, rfl, s2, by rw [upd_same, lf]; rfl⟩ (fun k σ H' _ ⟨_, _, s5, _⟩ => SqL.of (s5 _ _ hpf)) ?_ ?_⟩
    · rintro k v σ H' hk ⟨y3, rfl, sH, hpt⟩
      obtain ⟨e, he, hde⟩ := DpAll_at (DpAll_mono sH _ _ hfs) hk
      obtain ⟨x, hx, rfl⟩ := map_at he
      obtain ⟨px, rfl, hpx⟩ := Dp_pair hde
      have lt2 : ((ps.take k).flatMap flatP).length ≤ 768 := by
        rw [flatP_len, List.length_take]
        omega
      refine ⟨_, rfl, .inl ⟨rfl, _, SqL.of hpt⟩, _, rfl, pt, px, _, _, rfl, rfl, hpt, hpx, ?_, ?_⟩
      · rw [List.length_map, List.length_cons]
        exact Nat.le_of_lt (smallS (show ((ps.take k).flatMap flatP).length + 1 + 3 ≤ 1000 by omega))
      · refine ⟨_, rfl, same_mut sH npt, ?_⟩
        rw [upd_same]
        refine congrArg (fun z => some (HO.lst z)) ?_
        have : (ps.take (k + 1)).flatMap flatP = (ps.take k).flatMap flatP ++ flatP x := by
          rw [take_at hx, List.flatMap_append, List.flatMap_cons, List.flatMap_nil, List.append_nil]
        rw [this, List.map_cons, List.map_cons, List.map_append]
        rfl
    · rintro σ H' ⟨y3, rfl, sH, hpt⟩
      rw [lf, List.take_length] at hpt
      exact ⟨_, rfl, g H' pt r (same_frame (s1.trans sH)) (hv.same (s1.trans sH)) (.inl rfl) (s1.free npt) hpt⟩
/-! ### same, ends -/
theorem same_len (m : Net) : (Kp343.sameOf m).length ≤ m.n := by
  unfold Kp343.sameOf
  have := List.length_filter_le (fun s => (Kp343.pairsOf m).any fun x => x.1 == s) (List.range m.n)
  rw [List.length_range] at this
  exact this
theorem ok_same_m (T : Tx K mg) : FnOk P w K mg base CX0 9 T.fVesselSame T.dVesselSame ["self"] (spM0 K T.C .same) := by
  refine T.oVesselSame.F.ok scVesselSame (fun vs H Q E h => ?_) (fun cdv A outer s H vs Q E hr h => ?_)
  · obtain ⟨a, r, m, rfl, _⟩ := h
    rfl
  · obtain ⟨a, r, m, rfl, hv, hm, g⟩ := h
    obtain ⟨dx, ha⟩ := hv.ins
    have hn := hm.n
    have ln := same_len m
    rw [stepA_same] at g
    refine ⟨_, (pss_cons 
        (ps_set (i := 1) scVesselSame.nd rfl (.inl rfl) (pe_call (ok_substances_paired T) (hr.mono (by decide)) (by rfl) T.oSubstancesPaired.g T.oSubstancesPaired.F.kp T.oSubstancesPaired.b .nil pass0 (pa_cons (pe_fld (pv 0) rfl) (pa_cons (pe_fld (pv 0) rfl) pa_nil))))
      (pss_one 
        (ps_ret (pe_op op_cat (pe_lst (pa_cons (pe_callB (clen K) (by rfl) T.len PySem.boot_len (pa_cons (pv 1) pa_nil)) pa_nil)) (pv 1))))), ?_⟩
    refine ⟨_, rfl, a, T.C, dx, _, _, rfl, ha, T.cl, T.nR, vF_r m r, _, rfl, a, T.C, dx, _, _, rfl, ha, T.cl, T.nS, vF_s m r, .ref r, m, rfl, hv.dp, hm, fun H1 pn ns s1 npn hpn hns => ?_⟩
    generalize Kp343.sameOf m = l at *
    have ens := eInts_is hns
    subst ens
    refine ⟨_, rfl, pn, _, rfl, .inl (SqL.of hpn), by show 1 ≤ sizeLine; decide, fun q1 nq1 => ?_⟩
    rw [List.length_map] at *
    have s2 : Same H1 (upd H1 q1 (.lst [.int (l.length : Int)])) := same_upd nq1
    refine ⟨_, rfl, q1, pn, _, _, rfl, rfl, upd_same, s2 _ _ hpn, by rw [List.length_map]; exact Nat.le_of_lt (smallS (show 1 + l.length ≤ 1000 by omega)), fun q2 nq2 => ?_⟩
    refine gives_same g hv (s1.trans (s2.trans (same_upd nq2))) ((s1.trans s2).free nq2) ?_
    rw [upd_same, List.map_cons, List.map_map]
    rfl
theorem ok_ends_m (T : Tx K mg) : FnOk P w K mg base CX0 4 T.fVesselEnds T.dVesselEnds ["self"] (spM0 K T.C .ends) := by
  refine T.oVesselEnds.F.ok scVesselEnds (fun vs H Q E h => ?_) (fun cdv A outer s H vs Q E hr h => ?_)
  · obtain ⟨a, r, m, rfl, _⟩ := h
    rfl
  · obtain ⟨a, r, m, rfl, hv, hm, g⟩ := h
    obtain ⟨dx, ha⟩ := hv.ins
    have l16 := mixes16 hm
    have ln : ((List.range (Kp340.mixtures m).length).filter (Kp340.ending m)).length ≤ 16 := by
      have := List.length_filter_le (Kp340.ending m) (List.range (Kp340.mixtures m).length)
      rw [List.length_range] at this
      omega
    rw [stepA_ends] at g
    refine ⟨_, (pss_cons 
        (ps_set (i := 1) scVesselEnds.nd rfl (.inl rfl) (pe_call (ok_numbers_staying T) (hr.mono (by decide)) (by rfl) T.oNumbersStaying.g T.oNumbersStaying.F.kp T.oNumbersStaying.b .nil pass0 (pa_cons (pe_fld (pv 0) rfl) pa_nil)))
      (pss_one 
        (ps_ret (pe_op op_cat (pe_lst (pa_cons (pe_callB (clen K) (by rfl) T.len PySem.boot_len (pa_cons (pv 1) pa_nil)) pa_nil)) (pv 1))))), ?_⟩
    refine ⟨_, rfl, a, T.C, dx, _, _, rfl, ha, T.cl, T.nR, vF_r m r, .ref r, m, rfl, hv.dp, hm.few, fun H1 pn ns s1 npn hpn hns => ?_⟩
    generalize (List.range (Kp340.mixtures m).length).filter (Kp340.ending m) = l at *
    have ens := eInts_is hns
    subst ens
    refine ⟨_, rfl, pn, _, rfl, .inl (SqL.of hpn), by show 1 ≤ sizeLine; decide, fun q1 nq1 => ?_⟩
    rw [List.length_map] at *
    have s2 : Same H1 (upd H1 q1 (.lst [.int (l.length : Int)])) := same_upd nq1
    refine ⟨_, rfl, q1, pn, _, _, rfl, rfl, upd_same, s2 _ _ hpn, by rw [List.length_map]; exact Nat.le_of_lt (smallS (show 1 + l.length ≤ 1000 by omega)), fun q2 nq2 => ?_⟩
    refine gives_same g hv (s1.trans (s2.trans (same_upd nq2))) ((s1.trans s2).free nq2) ?_
    rw [upd_same, List.map_cons, List.map_map]
    rfl
/-! ### hides -/
theorem ok_hides_m (T : Tx K mg) : FnOk P w K mg base CX0 7 T.fVesselHides T.dVesselHides ["self"] (spM0 K T.C .hides) := by
  refine T.oVesselHides.F.ok scVesselHides (fun vs H Q E h => ?_) (fun cdv A outer s H vs Q E hr h => ?_)
  · obtain ⟨a, r, m, rfl, _⟩ := h
    rfl
  · obtain ⟨a, r, m, rfl, hv, hm, g⟩ := h
    obtain ⟨dx, ha⟩ := hv.ins
    rw [stepA_hides] at g
    refine ⟨_, (pss_one 
        (ps_ret (pe_lst (pa_cons (pe_call (ok_how_many_hidden T) (hr.mono (by decide)) (by rfl) T.oHowManyHidden.g T.oHowManyHidden.F.kp T.oHowManyHidden.b .nil pass0 (pa_cons (pe_fld (pv 0) rfl) (pa_cons (pe_fld (pv 0) rfl) pa_nil))) pa_nil)))), ?_⟩
    refine ⟨_, rfl, a, T.C, dx, _, _, rfl, ha, T.cl, T.nR, vF_r m r, _, rfl, a, T.C, dx, _, _, rfl, ha, T.cl, T.nS, vF_s m r, .ref r, m, rfl, hv.dp, hm, fun H1 s1 => ?_⟩
    exact ⟨by show 1 ≤ sizeLine; decide, fun p np => gives_same g hv (s1.trans (same_upd np)) (s1.free np) upd_same⟩
/-! ### weight -/
def spWeightM (K : PySem.W.Frag) (C : Addr) : Sp := fun vs H Q _ => ∃ (a r : Addr) (m : Net) (i : Nat) (x : V) (l : List Nat), vs = [.ref a, .int (i : Int), x] ∧ VAt K C H a r m ∧ NetOk m ∧ Dp K H x (.list (eInts l)) ∧ l.length ≤ 1000 ∧ GivesM K C H a r (stepA m (.weight i l)).1 (stepA m (.weight i l)).2 Q
theorem ok_weight_m (T : Tx K mg) : FnOk P w K mg base CX0 6 T.fVesselWeight T.dVesselWeight ["self", "i", "row"] (spWeightM K T.C) := by
  refine T.oVesselWeight.F.ok scVesselWeight (fun vs H Q E h => ?_) (fun cdv A outer s H vs Q E hr h => ?_)
  · obtain ⟨a, r, m, i, x, l, rfl, _⟩ := h
    rfl
  · obtain ⟨a, r, m, i, x, l, rfl, hv, hm, hx, hl, g⟩ := h
    obtain ⟨dx, ha⟩ := hv.ins
    have h8 := hm.few
    have hn := hm.n
    refine ⟨_, (pss_cons 
        (ps_set (i := 3) scVesselWeight.nd rfl (.inl rfl) (pe_call (ok_mixtures_of T) (hr.mono (by decide)) (by rfl) T.oMixturesOf.g T.oMixturesOf.F.kp T.oMixturesOf.b .nil pass0 (pa_cons (pe_fld (pv 0) rfl) pa_nil)))
      (pss_cons 
        (ps_if (pt_cmpR op_ge (pv 1) (pe_callB (clen K) (by rfl) T.len PySem.boot_len (pa_cons (pv 3) pa_nil)) (nomark _))
          (pss_one 
            (ps_ret (pe_lst (pa_cons (pe_gi T.cNO_SUCH) pa_nil)))) pss_nil)
      (pss_cons 
        (ps_if (pt_not (pt_val (pe_call (ok_makes_point T) (hr.mono (by decide)) (by rfl) T.oMakesPoint.g T.oMakesPoint.F.kp T.oMakesPoint.b .nil pass0 (pa_cons (pv 2) (pa_cons (pe_fld (pv 0) rfl) pa_nil)))))
          (pss_one 
            (ps_ret (pe_lst (pa_cons (pe_gi T.cWRONG) pa_nil)))) pss_nil)
      (pss_one 
        (ps_ret (pe_op op_cat (pe_lst (pa_cons pe_int pa_nil)) (pe_callTy (clist K) (by rfl) T.list PyProof.Rows.boot_list (pa_cons (pe_call (ok_weight_of T) (hr.mono (by decide)) (by rfl) T.oWeightOf.g T.oWeightOf.F.kp T.oWeightOf.b .nil pass0 (pa_cons (pe_ix (ixl K) (pv 3) (pv 1) (fun _ _ => rfl)) (pa_cons (pe_call (ok_amounts_at T) (hr.mono (by decide)) (by rfl) T.oAmountsAt.g T.oAmountsAt.F.kp T.oAmountsAt.b .nil pass0 (pa_cons (pv 2) pa_nil)) pa_nil))) pa_nil)))))))), ?_⟩
    refine ⟨_, rfl, a, T.C, dx, _, _, rfl, ha, T.cl, T.nR, vF_r m r, .ref r, m.rules, rfl, hv.dp, by omega, fun H1 pm ms s1 npm hpm hms => ?_⟩
    rw [mixtures_is] at hms
    have lm : ms.length = (Kp340.mixtures m).length := by rw [DpAll_len hms, List.length_map]
    refine ⟨_, rfl, _, rfl, pm, ms, rfl, .inl (SqL.of hpm), _, _, rfl, rfl, _, rfl, ite2 (fun hc => ?_) (fun hc => ?_)⟩
    · have hc : (ms.length : Int) ≤ (i : Int) := of_decide_eq_true hc
      rw [stepA_weight_no (by omega)] at g
      exact ⟨by show 1 ≤ sizeLine; decide, fun p np => gives_same g hv (s1.trans (same_upd np)) (s1.free np) upd_same⟩
    · have hc : ¬ (ms.length : Int) ≤ (i : Int) := fun z => hc (decide_eq_true z)
      have hi : i < (Kp340.mixtures m).length := by omega
      refine ⟨_, rfl, _, rfl, a, T.C, dx, _, _, rfl, s1 _ _ ha, T.cl, T.nS, vF_s m r, x, l, m.n, rfl, Dp_mono s1 _ _ hx, hl, fun H2 s2 => ?_⟩
      have u2 := s1.trans s2
      refine ⟨_, rfl, ite2 (fun hc2 => ?_) (fun hc2 => ?_)⟩
      · have hc2 : okPoint m.n l = false := by simpa using hc2
        rw [stepA_weight_bad hi hc2] at g
        exact ⟨by show 1 ≤ sizeLine; decide, fun p np => gives_same g hv (u2.trans (same_upd np)) (u2.free np) upd_same⟩
      · have hc2 : okPoint m.n l = true := by simpa using hc2
        have hp := okPoint_ok hc2
        have lmx := mixAt_len hm hi
        rw [stepA_weight hi hc2, ← weight_is hp lmx] at g
        refine ⟨by show 1 ≤ sizeLine; decide, fun q1 nq1 => ?_⟩
        have s3 : Same H2 (upd H2 q1 (.lst [.int 0])) := same_upd nq1
        have hq1 : (upd H2 q1 (.lst [.int 0])) q1 = some (.lst [.int 0]) := upd_same
        generalize upd H2 q1 (.lst [.int 0]) = H3 at *
        have hM3 : Dp K H3 (.ref pm) (.list ((Kp340.mixtures m).map eMix)) := .lst (SqL.of ((s2.trans s3) _ _ hpm)) (DpAll_mono (s2.trans s3) _ _ hms)
        obtain ⟨p1, ys1, u1, e1, hS1, hu1, hd1⟩ := mixes_at hM3 (k := i) hi
        cases e1
        refine ⟨_, rfl, _, rfl, pm, ys1, _, _, rfl, rfl, hS1, hu1, _, rfl, x, l, m.n, rfl, Dp_mono (u2.trans s3) _ _ hx, hp, hl, fun H4 pa as s4 npa hpa has => ?_⟩
        refine ⟨u1, .ref pa, Kp343.mixAt m i, amounts l, rfl, Dp_mono s4 _ _ hd1, .lst (SqL.of hpa) has, by rw [lmx, amounts_len hp], by rw [amounts_len hp]; exact hn.2, amounts_small hp, fun k => mix_small hm (mem_getD hi) k, fun H5 v5 s5 hv5 => ?_⟩
        obtain ⟨p5, rfl, hp5⟩ := Dp_F hv5
        refine ⟨p5, _, rfl, .inr hp5, fun q2 nq2 => ?_⟩
        have s6 : Same H5 (upd H5 q2 (.lst [.int (weightP (amounts l) (Kp343.mixAt m i)).1, .int (weightP (amounts l) (Kp343.mixAt m i)).2])) := same_upd nq2
        refine ⟨q1, q2, _, _, rfl, rfl, (s4.trans (s5.trans s6)) _ _ hq1, upd_same, by show 3 ≤ sizeLine; decide, fun q3 nq3 => ?_⟩
        have u6 := u2.trans (s3.trans (s4.trans (s5.trans s6)))
        exact gives_same g hv (u6.trans (same_upd nq3)) (u6.free nq3) upd_same
/-! ### steady, met -/
def spPointM (K : PySem.W.Frag) (C : Addr) (c : List Nat → Kp343.Call) : Sp := fun vs H Q _ => ∃ (a r : Addr) (m : Net) (x : V) (l : List Nat), vs = [.ref a, x] ∧ VAt K C H a r m ∧ NetOk m ∧ Dp K H x (.list (eInts l)) ∧ l.length ≤ 1000 ∧ GivesM K C H a r (stepA m (c l)).1 (stepA m (c l)).2 Q
theorem ok_steady_m (T : Tx K mg) : FnOk P w K mg base CX0 8 T.fVesselSteady T.dVesselSteady ["self", "row"] (spPointM K T.C .steady) := by
  refine T.oVesselSteady.F.ok scVesselSteady (fun vs H Q E h => ?_) (fun cdv A outer s H vs Q E hr h => ?_)
  · obtain ⟨a, r, m, x, l, rfl, _⟩ := h
    rfl
  · obtain ⟨a, r, m, x, l, rfl, hv, hm, hx, hl, g⟩ := h
    obtain ⟨dx, ha⟩ := hv.ins
    have hn := hm.n
    refine ⟨_, (pss_cons 
        (ps_if (pt_not (pt_val (pe_call (ok_makes_point T) (hr.mono (by decide)) (by rfl) T.oMakesPoint.g T.oMakesPoint.F.kp T.oMakesPoint.b .nil pass0 (pa_cons (pv 1) (pa_cons (pe_fld (pv 0) rfl) pa_nil)))))
          (pss_one 
            (ps_ret (pe_lst (pa_cons (pe_gi T.cWRONG) pa_nil)))) pss_nil)
      (pss_one 
        (ps_ret (pe_lst (pa_cons (pe_ifExp (pt_val (pe_call (ok_is_steady T) (hr.mono (by decide)) (by rfl) T.oIsSteady.g T.oIsSteady.F.kp T.oIsSteady.b .nil pass0 (pa_cons (pe_fld (pv 0) rfl) (pa_cons (pe_call (ok_amounts_at T) (hr.mono (by decide)) (by rfl) T.oAmountsAt.g T.oAmountsAt.F.kp T.oAmountsAt.b .nil pass0 (pa_cons (pv 1) pa_nil)) pa_nil)))) pe_int pe_int) pa_nil))))), ?_⟩
    refine ⟨_, rfl, _, rfl, a, T.C, dx, _, _, rfl, ha, T.cl, T.nS, vF_s m r, x, l, m.n, rfl, hx, hl, fun H2 s2 => ?_⟩
    refine ⟨_, rfl, ite2 (fun hc2 => ?_) (fun hc2 => ?_)⟩
    · have hc2 : okPoint m.n l = false := by simpa using hc2
      rw [stepA_steady_bad hc2] at g
      exact ⟨by show 1 ≤ sizeLine; decide, fun p np => gives_same g hv (s2.trans (same_upd np)) (s2.free np) upd_same⟩
    · have hc2 : okPoint m.n l = true := by simpa using hc2
      have hp := okPoint_ok hc2
      have la := amounts_len hp
      rw [stepA_steady hc2, steady_is hm hp] at g
      refine ⟨_, rfl, a, T.C, dx, _, _, rfl, s2 _ _ ha, T.cl, T.nR, vF_r m r, _, rfl, x, l, m.n, rfl, Dp_mono s2 _ _ hx, hp, hl, fun H4 pa as s4 npa hpa has => ?_⟩
      refine ⟨.ref r, .ref pa, m.rules, amounts l, rfl, (hv.same (s2.trans s4)).dp, .lst (SqL.of hpa) has, by rw [la]; exact hm.each, hm.few, by rw [la]; exact hn.2, amounts_small hp, fun H5 s5 => ?_⟩
      have u5 := s2.trans (s4.trans s5)
      rw [la]
      refine ⟨_, rfl, ite2 (fun hc3 => ?_) (fun hc3 => ?_)⟩
      · rw [if_pos hc3] at g
        exact ⟨by show 1 ≤ sizeLine; decide, fun p np => gives_same g hv (u5.trans (same_upd np)) (u5.free np) upd_same⟩
      · rw [if_neg hc3] at g
        exact ⟨by show 1 ≤ sizeLine; decide, fun p np => gives_same g hv (u5.trans (same_upd np)) (u5.free np) upd_same⟩
theorem ok_met_m (T : Tx K mg) : FnOk P w K mg base CX0 10 T.fVesselMet T.dVesselMet ["self", "row"] (spPointM K T.C .met) := by
  refine T.oVesselMet.F.ok scVesselMet (fun vs H Q E h => ?_) (fun cdv A outer s H vs Q E hr h => ?_)
  · obtain ⟨a, r, m, x, l, rfl, _⟩ := h
    rfl
  · obtain ⟨a, r, m, x, l, rfl, hv, hm, hx, hl, g⟩ := h
    obtain ⟨dx, ha⟩ := hv.ins
    have hn := hm.n
    refine ⟨_, (pss_cons 
        (ps_if (pt_not (pt_val (pe_call (ok_makes_point T) (hr.mono (by decide)) (by rfl) T.oMakesPoint.g T.oMakesPoint.F.kp T.oMakesPoint.b .nil pass0 (pa_cons (pv 1) (pa_cons (pe_fld (pv 0) rfl) pa_nil)))))
          (pss_one 
            (ps_ret (pe_lst (pa_cons (pe_gi T.cWRONG) pa_nil)))) pss_nil)
      (pss_one 
        (ps_ret (pe_lst (pa_cons (pe_ifExp (pt_val (pe_call (ok_is_met T) (hr.mono (by decide)) (by rfl) T.oIsMet.g T.oIsMet.F.kp T.oIsMet.b .nil pass0 (pa_cons (pe_fld (pv 0) rfl) (pa_cons (pe_call (ok_amounts_at T) (hr.mono (by decide)) (by rfl) T.oAmountsAt.g T.oAmountsAt.F.kp T.oAmountsAt.b .nil pass0 (pa_cons (pv 1) pa_nil)) pa_nil)))) pe_int pe_int) pa_nil))))), ?_⟩
    refine ⟨_, rfl, _, rfl, a, T.C, dx, _, _, rfl, ha, T.cl, T.nS, vF_s m r, x, l, m.n, rfl, hx, hl, fun H2 s2 => ?_⟩
    refine ⟨_, rfl, ite2 (fun hc2 => ?_) (fun hc2 => ?_)⟩
    · have hc2 : okPoint m.n l = false := by simpa using hc2
      rw [stepA_met_bad hc2] at g
      exact ⟨by show 1 ≤ sizeLine; decide, fun p np => gives_same g hv (s2.trans (same_upd np)) (s2.free np) upd_same⟩
    · have hc2 : okPoint m.n l = true := by simpa using hc2
      have hp := okPoint_ok hc2
      have la := amounts_len hp
      rw [stepA_met hc2, met_is hm hp] at g
      refine ⟨_, rfl, a, T.C, dx, _, _, rfl, s2 _ _ ha, T.cl, T.nR, vF_r m r, _, rfl, x, l, m.n, rfl, Dp_mono s2 _ _ hx, hp, hl, fun H4 pa as s4 npa hpa has => ?_⟩
      refine ⟨.ref r, .ref pa, m, amounts l, rfl, (hv.same (s2.trans s4)).dp, .lst (SqL.of hpa) has, hm, la, amounts_small hp, fun H5 s5 => ?_⟩
      have u5 := s2.trans (s4.trans s5)
      refine ⟨_, rfl, ite2 (fun hc3 => ?_) (fun hc3 => ?_)⟩
      · rw [if_pos hc3] at g
        exact ⟨by show 1 ≤ sizeLine; decide, fun p np => gives_same g hv (u5.trans (same_upd np)) (u5.free np) upd_same⟩
      · rw [if_neg hc3] at g
        exact ⟨by show 1 ≤ sizeLine; decide, fun p np => gives_same g hv (u5.trans (same_upd np)) (u5.free np) upd_same⟩
end
end Sl

/-! answer, and the four that it hands on to. -/
namespace Sl
open PySem PySem.Spec PyProof.Rows L2
open Kp340 (Fr Mix Net)
theorem len1 {l : List Nat} (h : l.length = 1) : ∃ a, l = [a] := by
  match l, h with
  | [a], _ => exact ⟨a, rfl⟩
theorem len2 {l : List Nat} (h : l.length = 2) : ∃ a b, l = [a, b] := by
  match l, h with
  | [a, b], _ => exact ⟨a, b, rfl⟩
theorem len3 {l : List Nat} (h : l.length = 3) : ∃ a b c, l = [a, b, c] := by
  match l, h with
  | [a, b, c], _ => exact ⟨a, b, c, rfl⟩
theorem len4 {l : List Nat} (h : l.length = 4) : ∃ a b c d, l = [a, b, c, d] := by
  match l, h with
  | [a, b, c, d], _ => exact ⟨a, b, c, d, rfl⟩
/-- a call but begin is read, and is no begin -/
theorem reads {c : Nat} {nums row : List Nat} (h1 : 1 ≤ c) (h16 : c ≤ 16) (hn : nums.length = numOf c) : ∃ x, Kp343Neutral.callOf (PyKp343.whole (rawC c nums row)) = some x ∧ ∀ n, x ≠ .begin_ n := by
  have : c = 1 ∨ c = 2 ∨ c = 3 ∨ c = 4 ∨ c = 5 ∨ c = 6 ∨ c = 7 ∨ c = 8 ∨ c = 9 ∨ c = 10 ∨ c = 11 ∨ c = 12 ∨ c = 13 ∨ c = 14 ∨ c = 15 ∨ c = 16 := by omega
  rcases this with rfl | rfl | rfl | rfl | rfl | rfl | rfl | rfl | rfl | rfl | rfl | rfl | rfl | rfl | rfl | rfl
  · cases List.length_eq_zero_iff.mp hn
    exact ⟨_, read1 row, by intro n z; cases z⟩
  · obtain ⟨j, rfl⟩ := len1 hn
    exact ⟨_, read2 j row, by intro n z; cases z⟩
  · obtain ⟨j, rfl⟩ := len1 hn
    exact ⟨_, read3 j row, by intro n z; cases z⟩
  · obtain ⟨j, a, b, rfl⟩ := len3 hn
    exact ⟨_, read4 j a b row, by intro n z; cases z⟩
  · cases List.length_eq_zero_iff.mp hn
    exact ⟨_, read5 row, by intro n z; cases z⟩
  · cases List.length_eq_zero_iff.mp hn
    exact ⟨_, read6 row, by intro n z; cases z⟩
  · obtain ⟨i, j, rfl⟩ := len2 hn
    exact ⟨_, read7 i j row, by intro n z; cases z⟩
  · obtain ⟨s, rfl⟩ := len1 hn
    exact ⟨_, read8 s row, by intro n z; cases z⟩
  · obtain ⟨j, a, b, s, rfl⟩ := len4 hn
    exact ⟨_, read9 j a b s row, by intro n z; cases z⟩
  · cases List.length_eq_zero_iff.mp hn
    exact ⟨_, read10 row, by intro n z; cases z⟩
  · cases List.length_eq_zero_iff.mp hn
    exact ⟨_, read11 row, by intro n z; cases z⟩
  · cases List.length_eq_zero_iff.mp hn
    exact ⟨_, read12 row, by intro n z; cases z⟩
  · cases List.length_eq_zero_iff.mp hn
    exact ⟨_, read13 row, by intro n z; cases z⟩
  · obtain ⟨i, rfl⟩ := len1 hn
    exact ⟨_, read14 i row, by intro n z; cases z⟩
  · cases List.length_eq_zero_iff.mp hn
    exact ⟨_, read15 row, by intro n z; cases z⟩
  · cases List.length_eq_zero_iff.mp hn
    exact ⟨_, read16 row, by intro n z; cases z⟩
section
variable {P : Program} {w : World} {K : PySem.W.Frag} {mg : Str → Option Value} {base : Heap}
theorem vno {m : Net} {r : Addr} {f : Str} (h1 : (f == ("substances" : Str)) = false := by decide +kernel) (h2 : (f == ("rules" : Str)) = false := by decide +kernel) : (vF m r).lookup f = none := vF_no h1 h2
theorem nums_seq {H : Hp} {x : V} {l : List Nat} (h : Dp K H x (.list (eInts l))) : ∃ p, x = .ref p ∧ SqL K H p (nV l) := by
  obtain ⟨p, xs, rfl, hS, hA⟩ := Dp_list h
  have e := eInts_is hA
  subst e
  exact ⟨p, rfl, hS⟩
theorem nv0 {a : Nat} {l : List Nat} : atI (nV (a :: l)) 0 = some (.int (a : Int)) := atI_nat (j := 0) rfl
theorem nv1 {a b : Nat} {l : List Nat} : atI (nV (a :: b :: l)) 1 = some (.int (b : Int)) := atI_nat (j := 1) rfl
theorem nv2 {a b c : Nat} {l : List Nat} : atI (nV (a :: b :: c :: l)) 2 = some (.int (c : Int)) := atI_nat (j := 2) rfl
theorem nv3 {a b c d : Nat} {l : List Nat} : atI (nV (a :: b :: c :: d :: l)) 3 = some (.int (d : Int)) := atI_nat (j := 3) rfl
/-! ### answer_on_rules -/
def spOn (K : PySem.W.Frag) (C : Addr) : Sp := fun vs H Q _ => ∃ (a r : Addr) (m : Net) (c : Nat) (nums row : List Nat) (x y : V), vs = [.ref a, .int (c : Int), x, y] ∧ VAt K C H a r m ∧ NetOk m ∧ 1 ≤ c ∧ c ≤ 4 ∧ nums.length = numOf c ∧ (hasRow c = true → row.length ≤ 800) ∧
  Dp K H x (.list (eInts nums)) ∧ Dp K H y (.list (eInts (if hasRow c = true then row else []))) ∧ GivesM K C H a r (net (ansOf (some m) c nums row).1) (ansOf (some m) c nums row).2 Q
theorem ok_answer_on_rules (T : Tx K mg) : FnOk P w K mg base CX0 4 T.fAnswerOnRules T.dAnswerOnRules ["vessel", "call", "numbers", "row"] (spOn K T.C) := by
  refine T.oAnswerOnRules.F.ok scAnswerOnRules (fun vs H Q E h => ?_) (fun cdv A outer s H vs Q E hr h => ?_)
  · obtain ⟨a, r, m, c, nums, row, x, y, rfl, _⟩ := h
    rfl
  · obtain ⟨a, r, m, c, nums, row, x, y, rfl, hv, hm, h1, h4, hn, hrow, hx, hy, g⟩ := h
    obtain ⟨dx, ha⟩ := hv.ins
    refine ⟨_, (pss_cons 
        (ps_if (pt_cmpR op_eq (pv 1) (pe_gi T.cRULE) (nomark _))
          (pss_one 
            (ps_ret (pe_meth (pv 0) T.cl T.mVesselRule (ok_rule_m T) (hr.mono (by decide)) T.oVesselRule.b .nil pass0 (pa_cons (pv 3) pa_nil)))) pss_nil)
      (pss_cons 
        (ps_if (pt_cmpR op_eq (pv 1) (pe_gi T.cUNRULE) (nomark _))
          (pss_one 
            (ps_ret (pe_meth (pv 0) T.cl T.mVesselUnrule (ok_unrule_m T) (hr.mono (by decide)) T.oVesselUnrule.b .nil pass0 (pa_cons (pe_ix (ixl K) (pv 2) pe_int (fun _ _ => rfl)) pa_nil)))) pss_nil)
      (pss_cons 
        (ps_if (pt_cmpR op_eq (pv 1) (pe_gi T.cRULEIS) (nomark _))
          (pss_one 
            (ps_ret (pe_meth (pv 0) T.cl T.mVesselRuleis (ok_ruleis_m T) (hr.mono (by decide)) T.oVesselRuleis.b .nil pass0 (pa_cons (pe_ix (ixl K) (pv 2) pe_int (fun _ _ => rfl)) pa_nil)))) pss_nil)
      (pss_one 
        (ps_ret (pe_meth (pv 0) T.cl T.mVesselSpeed (ok_speed_m T) (hr.mono (by decide)) T.oVesselSpeed.b .nil pass0 (pa_cons (pe_ix (ixl K) (pv 2) pe_int (fun _ _ => rfl)) (pa_cons (pe_ix (ixl K) (pv 2) pe_int (fun _ _ => rfl)) (pa_cons (pe_ix (ixl K) (pv 2) pe_int (fun _ _ => rfl)) pa_nil))))))))), ?_⟩
    have : c = 1 ∨ c = 2 ∨ c = 3 ∨ c = 4 := by omega
    rcases this with rfl | rfl | rfl | rfl
    · cases List.length_eq_zero_iff.mp hn
      rw [ans_begun (read1 row) (by intro n z; cases z)] at g
      have hl := hrow (by decide)
      refine ⟨_, rfl, rfl, _, rfl, ite2 (fun _ => ?_) (fun z => absurd (by decide) z)⟩
      exact ⟨_, rfl, a, dx, _, rfl, ha, vno, _, rfl, a, r, m, y, row, rfl, hv, hm, hy, by omega, g⟩
    · obtain ⟨j, rfl⟩ := len1 hn
      rw [ans_begun (read2 j row) (by intro n z; cases z)] at g
      obtain ⟨px, rfl, hS⟩ := nums_seq hx
      refine ⟨_, rfl, rfl, _, rfl, ite2 (fun z => absurd z (by decide)) (fun _ => ?_)⟩
      refine ⟨_, rfl, rfl, _, rfl, ite2 (fun _ => ?_) (fun z => absurd (by decide) z)⟩
      exact ⟨_, rfl, a, dx, _, rfl, ha, vno, _, rfl, px, _, _, _, rfl, rfl, hS, nv0, a, r, m, j, rfl, hv, hm, g⟩
    · obtain ⟨j, rfl⟩ := len1 hn
      rw [ans_begun (read3 j row) (by intro n z; cases z)] at g
      obtain ⟨px, rfl, hS⟩ := nums_seq hx
      refine ⟨_, rfl, rfl, _, rfl, ite2 (fun z => absurd z (by decide)) (fun _ => ?_)⟩
      refine ⟨_, rfl, rfl, _, rfl, ite2 (fun z => absurd z (by decide)) (fun _ => ?_)⟩
      refine ⟨_, rfl, rfl, _, rfl, ite2 (fun _ => ?_) (fun z => absurd (by decide) z)⟩
      exact ⟨_, rfl, a, dx, _, rfl, ha, vno, _, rfl, px, _, _, _, rfl, rfl, hS, nv0, a, r, m, j, rfl, hv, hm, g⟩
    · obtain ⟨j, u, v, rfl⟩ := len3 hn
      rw [ans_begun (read4 j u v row) (by intro n z; cases z)] at g
      obtain ⟨px, rfl, hS⟩ := nums_seq hx
      refine ⟨_, rfl, rfl, _, rfl, ite2 (fun z => absurd z (by decide)) (fun _ => ?_)⟩
      refine ⟨_, rfl, rfl, _, rfl, ite2 (fun z => absurd z (by decide)) (fun _ => ?_)⟩
      refine ⟨_, rfl, rfl, _, rfl, ite2 (fun z => absurd z (by decide)) (fun _ => ?_)⟩
      exact ⟨_, rfl, a, dx, _, rfl, ha, vno, _, rfl, px, _, _, _, rfl, rfl, hS, nv0, _, rfl, px, _, _, _, rfl, rfl, hS, nv1, _, rfl, px, _, _, _, rfl, rfl, hS, nv2, a, r, m, j, u, v, rfl, hv, hm, g⟩
/-! ### answer_by_sums -/
def spBySums (K : PySem.W.Frag) (C : Addr) : Sp := fun vs H Q _ => ∃ (a r : Addr) (m : Net) (c : Nat) (nums row : List Nat) (x : V), vs = [.ref a, .int (c : Int), x] ∧ VAt K C H a r m ∧ NetOk m ∧ 5 ≤ c ∧ c ≤ 9 ∧ nums.length = numOf c ∧ Dp K H x (.list (eInts nums)) ∧ GivesM K C H a r (net (ansOf (some m) c nums row).1) (ansOf (some m) c nums row).2 Q
theorem ok_answer_by_sums (T : Tx K mg) : FnOk P w K mg base CX0 11 T.fAnswerBySums T.dAnswerBySums ["vessel", "call", "numbers"] (spBySums K T.C) := by
  refine T.oAnswerBySums.F.ok scAnswerBySums (fun vs H Q E h => ?_) (fun cdv A outer s H vs Q E hr h => ?_)
  · obtain ⟨a, r, m, c, nums, row, x, rfl, _⟩ := h
    rfl
  · obtain ⟨a, r, m, c, nums, row, x, rfl, hv, hm, h1, h4, hn, hx, g⟩ := h
    obtain ⟨dx, ha⟩ := hv.ins
    refine ⟨_, (pss_cons 
        (ps_if (pt_cmpR op_eq (pv 1) (pe_gi T.cLEFTS) (nomark _))
          (pss_one 
            (ps_ret (pe_meth0 (pv 0) T.cl T.mVesselLefts (ok_lefts_m T) (hr.mono (by decide)) T.oVesselLefts.b .nil pass0))) pss_nil)
      (pss_cons 
        (ps_if (pt_cmpR op_eq (pv 1) (pe_gi T.cRELATIONS) (nomark _))
          (pss_one 
            (ps_ret (pe_meth0 (pv 0) T.cl T.mVesselRelations (ok_relations_m T) (hr.mono (by decide)) T.oVesselRelations.b .nil pass0))) pss_nil)
      (pss_cons 
        (ps_if (pt_cmpR op_eq (pv 1) (pe_gi T.cRATIO) (nomark _))
          (pss_one 
            (ps_ret (pe_meth (pv 0) T.cl T.mVesselRatio (ok_ratio_m T) (hr.mono (by decide)) T.oVesselRatio.b .nil pass0 (pa_cons (pe_ix (ixl K) (pv 2) pe_int (fun _ _ => rfl)) (pa_cons (pe_ix (ixl K) (pv 2) pe_int (fun _ _ => rfl)) pa_nil))))) pss_nil)
      (pss_cons 
        (ps_if (pt_cmpR op_eq (pv 1) (pe_gi T.cLEVEL) (nomark _))
          (pss_one 
            (ps_ret (pe_meth (pv 0) T.cl T.mVesselLevel (ok_level_m T) (hr.mono (by decide)) T.oVesselLevel.b .nil pass0 (pa_cons (pe_ix (ixl K) (pv 2) pe_int (fun _ _ => rfl)) pa_nil)))) pss_nil)
      (pss_one 
        (ps_ret (pe_meth (pv 0) T.cl T.mVesselIfspeed (ok_ifspeed_m T) (hr.mono (by decide)) T.oVesselIfspeed.b .nil pass0 (pa_cons (pe_ix (ixl K) (pv 2) pe_int (fun _ _ => rfl)) (pa_cons (pe_ix (ixl K) (pv 2) pe_int (fun _ _ => rfl)) (pa_cons (pe_ix (ixl K) (pv 2) pe_int (fun _ _ => rfl)) (pa_cons (pe_ix (ixl K) (pv 2) pe_int (fun _ _ => rfl)) pa_nil))))))))))), ?_⟩
    have : c = 5 ∨ c = 6 ∨ c = 7 ∨ c = 8 ∨ c = 9 := by omega
    rcases this with rfl | rfl | rfl | rfl | rfl
    · cases List.length_eq_zero_iff.mp hn
      rw [ans_begun (read5 row) (by intro n z; cases z)] at g
      refine ⟨_, rfl, rfl, _, rfl, ite2 (fun _ => ?_) (fun z => absurd (by decide) z)⟩
      exact ⟨_, rfl, a, dx, _, rfl, ha, vno, a, r, m, rfl, hv, hm, g⟩
    · cases List.length_eq_zero_iff.mp hn
      rw [ans_begun (read6 row) (by intro n z; cases z)] at g
      refine ⟨_, rfl, rfl, _, rfl, ite2 (fun z => absurd z (by decide)) (fun _ => ?_)⟩
      refine ⟨_, rfl, rfl, _, rfl, ite2 (fun _ => ?_) (fun z => absurd (by decide) z)⟩
      exact ⟨_, rfl, a, dx, _, rfl, ha, vno, a, r, m, rfl, hv, hm, g⟩
    · obtain ⟨i, j, rfl⟩ := len2 hn
      rw [ans_begun (read7 i j row) (by intro n z; cases z)] at g
      obtain ⟨px, rfl, hS⟩ := nums_seq hx
      refine ⟨_, rfl, rfl, _, rfl, ite2 (fun z => absurd z (by decide)) (fun _ => ?_)⟩
      refine ⟨_, rfl, rfl, _, rfl, ite2 (fun z => absurd z (by decide)) (fun _ => ?_)⟩
      refine ⟨_, rfl, rfl, _, rfl, ite2 (fun _ => ?_) (fun z => absurd (by decide) z)⟩
      exact ⟨_, rfl, a, dx, _, rfl, ha, vno, _, rfl, px, _, _, _, rfl, rfl, hS, nv0, _, rfl, px, _, _, _, rfl, rfl, hS, nv1, a, r, m, i, j, rfl, hv, hm, g⟩
    · obtain ⟨j, rfl⟩ := len1 hn
      rw [ans_begun (read8 j row) (by intro n z; cases z)] at g
      obtain ⟨px, rfl, hS⟩ := nums_seq hx
      refine ⟨_, rfl, rfl, _, rfl, ite2 (fun z => absurd z (by decide)) (fun _ => ?_)⟩
      refine ⟨_, rfl, rfl, _, rfl, ite2 (fun z => absurd z (by decide)) (fun _ => ?_)⟩
      refine ⟨_, rfl, rfl, _, rfl, ite2 (fun z => absurd z (by decide)) (fun _ => ?_)⟩
      refine ⟨_, rfl, rfl, _, rfl, ite2 (fun _ => ?_) (fun z => absurd (by decide) z)⟩
      exact ⟨_, rfl, a, dx, _, rfl, ha, vno, _, rfl, px, _, _, _, rfl, rfl, hS, nv0, a, r, m, j, rfl, hv, hm, g⟩
    · obtain ⟨j, u, v, t, rfl⟩ := len4 hn
      rw [ans_begun (read9 j u v t row) (by intro n z; cases z)] at g
      obtain ⟨px, rfl, hS⟩ := nums_seq hx
      refine ⟨_, rfl, rfl, _, rfl, ite2 (fun z => absurd z (by decide)) (fun _ => ?_)⟩
      refine ⟨_, rfl, rfl, _, rfl, ite2 (fun z => absurd z (by decide)) (fun _ => ?_)⟩
      refine ⟨_, rfl, rfl, _, rfl, ite2 (fun z => absurd z (by decide)) (fun _ => ?_)⟩
      refine ⟨_, rfl, rfl, _, rfl, ite2 (fun z => absurd z (by decide)) (fun _ => ?_)⟩
      exact ⟨_, rfl, a, dx, _, rfl, ha, vno, _, rfl, px, _, _, _, rfl, rfl, hS, nv0, _, rfl, px, _, _, _, rfl, rfl, hS, nv1, _, rfl, px, _, _, _, rfl, rfl, hS, nv2, _, rfl, px, _, _, _, rfl, rfl, hS, nv3, a, r, m, j, u, v, t, rfl, hv, hm, g⟩
/-! ### answer_by_knot -/
def spByKnot (K : PySem.W.Frag) (C : Addr) : Sp := fun vs H Q _ => ∃ (a r : Addr) (m : Net) (c : Nat) (nums row : List Nat), vs = [.ref a, .int (c : Int)] ∧ VAt K C H a r m ∧ NetOk m ∧ 10 ≤ c ∧ c ≤ 13 ∧ nums.length = numOf c ∧ GivesM K C H a r (net (ansOf (some m) c nums row).1) (ansOf (some m) c nums row).2 Q
theorem ok_answer_by_knot (T : Tx K mg) : FnOk P w K mg base CX0 10 T.fAnswerByKnot T.dAnswerByKnot ["vessel", "call"] (spByKnot K T.C) := by
  refine T.oAnswerByKnot.F.ok scAnswerByKnot (fun vs H Q E h => ?_) (fun cdv A outer s H vs Q E hr h => ?_)
  · obtain ⟨a, r, m, c, nums, row, rfl, _⟩ := h
    rfl
  · obtain ⟨a, r, m, c, nums, row, rfl, hv, hm, h1, h4, hn, g⟩ := h
    obtain ⟨dx, ha⟩ := hv.ins
    refine ⟨_, (pss_cons 
        (ps_if (pt_cmpR op_eq (pv 1) (pe_gi T.cPAIRS) (nomark _))
          (pss_one 
            (ps_ret (pe_meth0 (pv 0) T.cl T.mVesselPairs (ok_pairs_m T) (hr.mono (by decide)) T.oVesselPairs.b .nil pass0))) pss_nil)
      (pss_cons 
        (ps_if (pt_cmpR op_eq (pv 1) (pe_gi T.cSAME) (nomark _))
          (pss_one 
            (ps_ret (pe_meth0 (pv 0) T.cl T.mVesselSame (ok_same_m T) (hr.mono (by decide)) T.oVesselSame.b .nil pass0))) pss_nil)
      (pss_cons 
        (ps_if (pt_cmpR op_eq (pv 1) (pe_gi T.cENDS) (nomark _))
          (pss_one 
            (ps_ret (pe_meth0 (pv 0) T.cl T.mVesselEnds (ok_ends_m T) (hr.mono (by decide)) T.oVesselEnds.b .nil pass0))) pss_nil)
      (pss_one 
        (ps_ret (pe_meth0 (pv 0) T.cl T.mVesselHides (ok_hides_m T) (hr.mono (by decide)) T.oVesselHides.b .nil pass0)))))), ?_⟩
    have : c = 10 ∨ c = 11 ∨ c = 12 ∨ c = 13 := by omega
    rcases this with rfl | rfl | rfl | rfl
    · cases List.length_eq_zero_iff.mp hn
      rw [ans_begun (read10 row) (by intro n z; cases z)] at g
      refine ⟨_, rfl, rfl, _, rfl, ite2 (fun _ => ?_) (fun z => absurd (by decide) z)⟩
      exact ⟨_, rfl, a, dx, _, rfl, ha, vno, a, r, m, rfl, hv, hm, g⟩
    · cases List.length_eq_zero_iff.mp hn
      rw [ans_begun (read11 row) (by intro n z; cases z)] at g
      refine ⟨_, rfl, rfl, _, rfl, ite2 (fun z => absurd z (by decide)) (fun _ => ?_)⟩
      refine ⟨_, rfl, rfl, _, rfl, ite2 (fun _ => ?_) (fun z => absurd (by decide) z)⟩
      exact ⟨_, rfl, a, dx, _, rfl, ha, vno, a, r, m, rfl, hv, hm, g⟩
    · cases List.length_eq_zero_iff.mp hn
      rw [ans_begun (read12 row) (by intro n z; cases z)] at g
      refine ⟨_, rfl, rfl, _, rfl, ite2 (fun z => absurd z (by decide)) (fun _ => ?_)⟩
      refine ⟨_, rfl, rfl, _, rfl, ite2 (fun z => absurd z (by decide)) (fun _ => ?_)⟩
      refine ⟨_, rfl, rfl, _, rfl, ite2 (fun _ => ?_) (fun z => absurd (by decide) z)⟩
      exact ⟨_, rfl, a, dx, _, rfl, ha, vno, a, r, m, rfl, hv, hm, g⟩
    · cases List.length_eq_zero_iff.mp hn
      rw [ans_begun (read13 row) (by intro n z; cases z)] at g
      refine ⟨_, rfl, rfl, _, rfl, ite2 (fun z => absurd z (by decide)) (fun _ => ?_)⟩
      refine ⟨_, rfl, rfl, _, rfl, ite2 (fun z => absurd z (by decide)) (fun _ => ?_)⟩
      refine ⟨_, rfl, rfl, _, rfl, ite2 (fun z => absurd z (by decide)) (fun _ => ?_)⟩
      exact ⟨_, rfl, a, dx, _, rfl, ha, vno, a, r, m, rfl, hv, hm, g⟩
/-! ### answer_at_point -/
def spAtPoint (K : PySem.W.Frag) (C : Addr) : Sp := fun vs H Q _ => ∃ (a r : Addr) (m : Net) (c : Nat) (nums row : List Nat) (x y : V), vs = [.ref a, .int (c : Int), x, y] ∧ VAt K C H a r m ∧ NetOk m ∧ 14 ≤ c ∧ c ≤ 16 ∧ nums.length = numOf c ∧ (hasRow c = true → row.length ≤ 800) ∧
  Dp K H x (.list (eInts nums)) ∧ Dp K H y (.list (eInts (if hasRow c = true then row else []))) ∧ GivesM K C H a r (net (ansOf (some m) c nums row).1) (ansOf (some m) c nums row).2 Q
theorem ok_answer_at_point (T : Tx K mg) : FnOk P w K mg base CX0 11 T.fAnswerAtPoint T.dAnswerAtPoint ["vessel", "call", "numbers", "row"] (spAtPoint K T.C) := by
  refine T.oAnswerAtPoint.F.ok scAnswerAtPoint (fun vs H Q E h => ?_) (fun cdv A outer s H vs Q E hr h => ?_)
  · obtain ⟨a, r, m, c, nums, row, x, y, rfl, _⟩ := h
    rfl
  · obtain ⟨a, r, m, c, nums, row, x, y, rfl, hv, hm, h1, h4, hn, hrow, hx, hy, g⟩ := h
    obtain ⟨dx, ha⟩ := hv.ins
    refine ⟨_, (pss_cons 
        (ps_if (pt_cmpR op_eq (pv 1) (pe_gi T.cWEIGHT) (nomark _))
          (pss_one 
            (ps_ret (pe_meth (pv 0) T.cl T.mVesselWeight (ok_weight_m T) (hr.mono (by decide)) T.oVesselWeight.b .nil pass0 (pa_cons (pe_ix (ixl K) (pv 2) pe_int (fun _ _ => rfl)) (pa_cons (pv 3) pa_nil))))) pss_nil)
      (pss_cons 
        (ps_if (pt_cmpR op_eq (pv 1) (pe_gi T.cSTEADY) (nomark _))
          (pss_one 
            (ps_ret (pe_meth (pv 0) T.cl T.mVesselSteady (ok_steady_m T) (hr.mono (by decide)) T.oVesselSteady.b .nil pass0 (pa_cons (pv 3) pa_nil)))) pss_nil)
      (pss_one 
        (ps_ret (pe_meth (pv 0) T.cl T.mVesselMet (ok_met_m T) (hr.mono (by decide)) T.oVesselMet.b .nil pass0 (pa_cons (pv 3) pa_nil)))))), ?_⟩
    have : c = 14 ∨ c = 15 ∨ c = 16 := by omega
    rcases this with rfl | rfl | rfl
    · obtain ⟨i, rfl⟩ := len1 hn
      rw [ans_begun (read14 i row) (by intro n z; cases z)] at g
      obtain ⟨px, rfl, hS⟩ := nums_seq hx
      have hl := hrow (by decide)
      refine ⟨_, rfl, rfl, _, rfl, ite2 (fun _ => ?_) (fun z => absurd (by decide) z)⟩
      exact ⟨_, rfl, a, dx, _, rfl, ha, vno, _, rfl, px, _, _, _, rfl, rfl, hS, nv0, _, rfl, a, r, m, i, y, row, rfl, hv, hm, hy, by omega, g⟩
    · cases List.length_eq_zero_iff.mp hn
      rw [ans_begun (read15 row) (by intro n z; cases z)] at g
      have hl := hrow (by decide)
      refine ⟨_, rfl, rfl, _, rfl, ite2 (fun z => absurd z (by decide)) (fun _ => ?_)⟩
      refine ⟨_, rfl, rfl, _, rfl, ite2 (fun _ => ?_) (fun z => absurd (by decide) z)⟩
      exact ⟨_, rfl, a, dx, _, rfl, ha, vno, _, rfl, a, r, m, y, row, rfl, hv, hm, hy, by omega, g⟩
    · cases List.length_eq_zero_iff.mp hn
      rw [ans_begun (read16 row) (by intro n z; cases z)] at g
      have hl := hrow (by decide)
      refine ⟨_, rfl, rfl, _, rfl, ite2 (fun z => absurd z (by decide)) (fun _ => ?_)⟩
      refine ⟨_, rfl, rfl, _, rfl, ite2 (fun z => absurd z (by decide)) (fun _ => ?_)⟩
      exact ⟨_, rfl, a, dx, _, rfl, ha, vno, _, rfl, a, r, m, y, row, rfl, hv, hm, hy, by omega, g⟩
/-! ### answer -/
theorem begin_ans (st : Option Net) (n : Nat) (row : List Nat) : net (ansOf st 0 [n] row).1 = (beginA (net st) n).1 ∧ (ansOf st 0 [n] row).2 = (beginA (net st) n).2 := by
  rw [ans_call (read0 n row), begin_st]
  unfold beginA
  by_cases h : n < 1 ∨ 4 < n
  · rw [if_pos h, if_pos h]
    exact ⟨rfl, rfl⟩
  · rw [if_neg h, if_neg h]
    exact ⟨rfl, rfl⟩
theorem ok_answer (T : Tx K mg) : FnOk P w K mg base CX0 12 T.fAnswer T.dAnswer ["vessel", "call", "numbers", "row"] (spAnswer K T.C) := by
  refine T.oAnswer.F.ok scAnswer (fun vs H Q E h => ?_) (fun cdv A outer s H vs Q E hr h => ?_)
  · obtain ⟨a, r, st, c, nums, row, x, y, rfl, _⟩ := h
    rfl
  · obtain ⟨a, r, st, c, nums, row, x, y, rfl, hv, hst, h16, hn, hrow, hx, hy, g⟩ := h
    obtain ⟨dx, ha⟩ := hv.ins
    refine ⟨_, (pss_cons 
        (ps_if (pt_cmpR op_eq (pv 1) (pe_gi T.cBEGIN) (nomark _))
          (pss_one 
            (ps_ret (pe_meth (pv 0) T.cl T.mVesselBegin (ok_begin_m T) (hr.mono (by decide)) T.oVesselBegin.b .nil pass0 (pa_cons (pe_ix (ixl K) (pv 2) pe_int (fun _ _ => rfl)) pa_nil)))) pss_nil)
      (pss_cons 
        (ps_if (pt_not (pt_val (pe_meth0 (pv 0) T.cl T.mVesselHasBegun (ok_has_begun_m T) (hr.mono (by decide)) T.oVesselHasBegun.b .nil pass0)))
          (pss_one 
            (ps_ret (pe_lst (pa_cons (pe_gi T.cNOT_BEGUN) pa_nil)))) pss_nil)
      (pss_cons 
        (ps_if (pt_cmpR op_le (pv 1) (pe_gi T.cSPEED) (nomark _))
          (pss_one 
            (ps_ret (pe_call (ok_answer_on_rules T) (hr.mono (by decide)) (by rfl) T.oAnswerOnRules.g T.oAnswerOnRules.F.kp T.oAnswerOnRules.b .nil pass0 (pa_cons (pv 0) (pa_cons (pv 1) (pa_cons (pv 2) (pa_cons (pv 3) pa_nil))))))) pss_nil)
      (pss_cons 
        (ps_if (pt_cmpR op_le (pv 1) (pe_gi T.cIFSPEED) (nomark _))
          (pss_one 
            (ps_ret (pe_call (ok_answer_by_sums T) (hr.mono (by decide)) (by rfl) T.oAnswerBySums.g T.oAnswerBySums.F.kp T.oAnswerBySums.b .nil pass0 (pa_cons (pv 0) (pa_cons (pv 1) (pa_cons (pv 2) pa_nil)))))) pss_nil)
      (pss_cons 
        (ps_if (pt_cmpR op_le (pv 1) (pe_gi T.cHIDES) (nomark _))
          (pss_one 
            (ps_ret (pe_call (ok_answer_by_knot T) (hr.mono (by decide)) (by rfl) T.oAnswerByKnot.g T.oAnswerByKnot.F.kp T.oAnswerByKnot.b .nil pass0 (pa_cons (pv 0) (pa_cons (pv 1) pa_nil))))) pss_nil)
      (pss_one 
        (ps_ret (pe_call (ok_answer_at_point T) (hr.mono (by decide)) (by rfl) T.oAnswerAtPoint.g T.oAnswerAtPoint.F.kp T.oAnswerAtPoint.b .nil pass0 (pa_cons (pv 0) (pa_cons (pv 1) (pa_cons (pv 2) (pa_cons (pv 3) pa_nil)))))))))))), ?_⟩
    by_cases hc0 : c = 0
    · subst hc0
      obtain ⟨n, rfl⟩ := len1 hn
      obtain ⟨e1, e2⟩ := begin_ans st n row
      rw [e1, e2] at g
      obtain ⟨px, rfl, hS⟩ := nums_seq hx
      refine ⟨_, rfl, rfl, _, rfl, ite2 (fun _ => ?_) (fun z => absurd (by decide) z)⟩
      exact ⟨_, rfl, a, dx, _, rfl, ha, vno, _, rfl, px, _, _, _, rfl, rfl, hS, nv0, a, r, net st, n, rfl, hv, g⟩
    · refine ⟨_, rfl, rfl, _, rfl, ite2 (fun z => absurd (of_decide_eq_true z) (fun z => hc0 (by have := V.int.inj z; omega))) (fun _ => ?_)⟩
      refine ⟨_, rfl, a, dx, _, rfl, ha, vno, a, r, net st, rfl, hv, ?_⟩
      cases st with
      | none =>
        obtain ⟨call, hcall, hb⟩ := reads (row := row) (show 1 ≤ c by omega) h16 hn
        rw [ans_none hcall hb] at g
        refine ⟨_, rfl, ite2 (fun _ => ?_) (fun z => absurd (by decide) z)⟩
        exact ⟨by show 1 ≤ sizeLine; decide, fun p np => gives_same g hv (same_upd np) np upd_same⟩
      | some m =>
        have hm := hst m rfl
        have hpos : decide (0 < (net (some m)).n) = true := decide_eq_true hm.n.1
        rw [hpos]
        refine ⟨_, rfl, ite2 (fun z => absurd z (by decide)) (fun _ => ?_)⟩
        have hv : VAt K T.C H a r m := hv
        refine ⟨_, rfl, _, _, rfl, rfl, _, rfl, ite2 (fun h4 => ?_) (fun h4 => ?_)⟩
        · have h4 : (c : Int) ≤ 4 := of_decide_eq_true h4
          exact ⟨_, rfl, _, rfl, _, rfl, _, rfl, a, r, m, c, nums, row, x, y, rfl, hv, hm, by omega, by omega, hn, hrow, hx, hy, g⟩
        · have h4 : ¬ (c : Int) ≤ 4 := fun z => h4 (decide_eq_true z)
          refine ⟨_, rfl, _, _, rfl, rfl, _, rfl, ite2 (fun h9 => ?_) (fun h9 => ?_)⟩
          · have h9 : (c : Int) ≤ 9 := of_decide_eq_true h9
            exact ⟨_, rfl, _, rfl, _, rfl, a, r, m, c, nums, row, x, rfl, hv, hm, by omega, by omega, hn, hx, g⟩
          · have h9 : ¬ (c : Int) ≤ 9 := fun z => h9 (decide_eq_true z)
            refine ⟨_, rfl, _, _, rfl, rfl, _, rfl, ite2 (fun h13 => ?_) (fun h13 => ?_)⟩
            · have h13 : (c : Int) ≤ 13 := of_decide_eq_true h13
              exact ⟨_, rfl, _, rfl, a, r, m, c, nums, row, rfl, hv, hm, by omega, by omega, hn, g⟩
            · have h13 : ¬ (c : Int) ≤ 13 := fun z => h13 (decide_eq_true z)
              exact ⟨_, rfl, _, rfl, _, rfl, _, rfl, a, r, m, c, nums, row, x, y, rfl, hv, hm, by omega, h16, hn, hrow, hx, hy, g⟩
end
end Sl

/-! answers. -/
namespace Sl
open PySem PySem.Spec PyProof.Rows L2
open Kp340 (Fr Mix Net)
section
variable {P : Program} {w : World} {K : PySem.W.Frag} {mg : Str → Option Value} {base : Heap}
def spAns (K : PySem.W.Frag) : Sp := fun vs H Q _ => ∃ (a : Addr) (ns : List Int), vs = [.ref a] ∧ SqL K H a (ns.map V.int) ∧ PyKp343.answers_asked ns = true ∧ ns.length ≤ 800 ∧ (∀ x ∈ ns, 0 ≤ x ∧ x ≤ 4294967295) ∧ ∀ (H' : Hp) (p : Addr), H' p = some (.lst ((PyKp343.answers ns).map V.int)) → Q (.ref p) H'
theorem to_nats {ns : List Int} (h : ∀ x ∈ ns, 0 ≤ x ∧ x ≤ 4294967295) : ns = toI (ns.map Int.toNat) := by
  unfold toI
  rw [List.map_map]
  conv => lhs; rw [← List.map_id ns]
  refine List.map_congr_left fun x hx => ?_
  show x = ((x.toNat : Nat) : Int)
  have := h x hx
  omega
theorem ints_map (l : List Nat) : (toI l).map V.int = l.map fun (k : Nat) => V.int (k : Int) := by
  unfold toI
  rw [List.map_map]
  rfl
theorem vat_told {C : Addr} {H : Hp} {a r pt : Addr} {m : Net} {o : HO} {ys : List V} (v : VAt K C H a r m) (hpt : H pt = some (.lst ys)) (nr : pt ≠ r) : VAt K C (upd H pt o) a r m := by
  obtain ⟨dx, h1⟩ := v.ins
  obtain ⟨vs, h2, h3⟩ := v.lst
  have na : a ≠ pt := fun e => by
    rw [e, hpt] at h1
    cases h1
  exact ⟨⟨dx, by rw [upd_ne na]; exact h1⟩, vs, by rw [upd_ne (fun e => nr e.symm)]; exact h2, DpAll_tup (keepT_upd (notup_lst hpt)) _ _ (tup_rules _) h3⟩
theorem ok_answers (T : Tx K mg) : FnOk P w K mg base CX0 13 T.fAnswers T.dAnswers ["calls"] (spAns K) := by
  refine T.oAnswers.F.ok scAnswers (fun vs H Q E h => ?_) (fun cdv A outer s H vs Q E hr h => ?_)
  · obtain ⟨a, ns, rfl, _⟩ := h
    rfl
  · obtain ⟨ac, ns, rfl, hS, hask, hlen, hbd, q⟩ := h
    obtain ⟨cs0, hcs0, hans, hshort⟩ := asked_calls hask
    rw [hans] at q hshort
    have eN := to_nats hbd
    generalize hN : ns.map Int.toNat = N at eN
    have lN : N.length = ns.length := by rw [← hN, List.length_map]
    rw [eN, ints_map] at hS
    rw [eN] at hcs0
    clear hN hbd hans hask
    have hx : Dp K H (.ref ac) (.list (eInts N)) := .lst hS (DpNats _ N)
    refine ⟨_, (pss_cons 
        (ps_set (i := 1) scAnswers.nd rfl (.inl rfl) (pe_make0 T.mkC (ok_init T) (hr.mono (by decide)) (by rfl) T.gC T.oVesselInit.b .nil pass0))
      (pss_cons 
        (ps_set (i := 2) scAnswers.nd rfl (.inl rfl) (pe_lst pa_nil))
      (pss_cons 
        (ps_set (i := 3) scAnswers.nd rfl (.inl rfl) pe_int)
      (pss_cons 
        (ps_while PassesOwn.never (pt_cmpR op_lt (pv 3) (pe_callB (clen K) (by rfl) T.len PySem.boot_len (pa_cons (pv 0) pa_nil)) (nomark _))
          (pss_cons 
            (ps_set (i := 4) scAnswers.nd rfl (.inl rfl) (pe_call (ok_answer T) (hr.mono (by decide)) (by rfl) T.oAnswer.g T.oAnswer.F.kp T.oAnswer.b .nil pass0 (pa_cons (pv 1) (pa_cons (pe_ix (ixl K) (pv 0) (pv 3) (fun _ _ => rfl)) (pa_cons (pe_call (ok_numbers_at T) (hr.mono (by decide)) (by rfl) T.oNumbersAt.g T.oNumbersAt.F.kp T.oNumbersAt.b .nil pass0 (pa_cons (pv 0) (pa_cons (pv 3) pa_nil))) (pa_cons (pe_call (ok_row_at T) (hr.mono (by decide)) (by rfl) T.oRowAt.g T.oRowAt.F.kp T.oRowAt.b .nil pass0 (pa_cons (pv 0) (pa_cons (pv 3) pa_nil))) pa_nil))))))
          (pss_cons 
            (ps_expr (pe_bm PySem.F.plainAttrs_list PySem.F.slot_list_append PySem.F.type_list_append mt_append (pv 2) (pa_cons (pe_callB (clen K) (by rfl) T.len PySem.boot_len (pa_cons (pv 4) pa_nil)) pa_nil)))
          (pss_cons 
            (ps_expr (pe_bm PySem.F.plainAttrs_list PySem.F.slot_list_extend PySem.F.type_list_extend mt_extend (pv 2) (pa_cons (pv 4) pa_nil)))
          (pss_one 
            (ps_set (i := 3) scAnswers.nd rfl (.inl rfl) (pe_call (ok_place_behind T) (hr.mono (by decide)) (by rfl) T.oPlaceBehind.g T.oPlaceBehind.F.kp T.oPlaceBehind.b .nil pass0 (pa_cons (pv 0) (pa_cons (pv 3) pa_nil)))))))))
      (pss_one 
        (ps_ret (pv 2))))))), ?_⟩
    -- vessel = Vessel()
    intro a dx na ndx nex
    refine ⟨a, dx, rfl, upd_same, fun H1 r fr1 hv1 nr => ⟨rfl, ?_⟩⟩
    have nr0 : H r = none := by
      have : r ≠ a := fun e => by
        rw [e, upd_same] at nr
        cases nr
      rw [upd_ne this] at nr
      have : r ≠ dx := fun e => by
        rw [e, upd_same] at nr
        cases nr
      rw [upd_ne this] at nr
      exact nr
    have s1 : Same H H1 := fun b o hb => fr1 b o (by
      rw [upd_ne (ne_of_none hb na), upd_ne (ne_of_none hb ndx)]
      exact hb) (ne_of_none hb na)
    -- told = []; place = 0
    refine ⟨Nat.zero_le _, fun pt npt => ?_⟩
    have s2 : Same H1 (upd H1 pt (.lst [])) := same_upd npt
    have npr : pt ≠ r := fun e => by
      obtain ⟨vs, h2, _⟩ := hv1.lst
      rw [e, h2] at npt
      cases npt
    have npt0 : H pt = none := s1.free npt
    -- the loop
    refine ⟨fun mm σ H' => ∃ (p : Nat) (st : Option Net) (done : List Int) (cs : List (List (List Int))) (f : Nat) (r : Addr) (y4 : Option V), σ = [some (.ref ac), some (.ref a), some (.ref pt), some (.int (p : Int)), y4] ∧ Same H H' ∧ VAt K T.C H' a r (net st) ∧ StOk st ∧ H' pt = some (.lst (done.map V.int)) ∧ p ≤ N.length ∧ PyFlat.calls PyKp343.shape f (toI (N.drop p)) = some cs ∧ done ++ toldFrom st cs = toldFrom none cs0 ∧ H r = none ∧ pt ≠ r ∧ mm = N.length - p,
      ⟨N.length, 0, none, [], cs0, _, r, none, rfl, s1.trans s2, hv1.same s2, (fun m hm => by cases hm), upd_same, Nat.zero_le _, hcs0, rfl, nr0, npr, rfl⟩, ?_⟩
    rintro mm σ H' ⟨p, st, done, cs, f, r, y4, rfl, sH, hv, hst, hpt, hp, hcs, htold, nr0, npr, rfl⟩
    have hS' := Same.seq sH hS
    refine ⟨_, rfl, _, rfl, ac, _, rfl, .inl hS', _, _, rfl, rfl, _, rfl, ite2 (fun hc => ?_) (fun hc => ?_)⟩
    · have hc : (p : Int) < (((N.map fun (k : Nat) => V.int (k : Int)).length : Nat) : Int) := of_decide_eq_true hc
      rw [List.length_map] at hc
      have hlt : p < N.length := by omega
      have hne : N.drop p ≠ [] := fun z => by
        have := congrArg List.length z
        rw [List.length_drop] at this
        show False
        have h0 : ([] : List Nat).length = 0 := rfl
        omega
      obtain ⟨c, nums, row, post, cs', f', e1, hc16, hnum, rfl, hcs'⟩ := calls_step hne hcs
      have hca : CallAt N p c nums row := ⟨⟨N.take p, post, by rw [← e1, List.take_append_drop], by rw [List.length_take]; omega⟩, hc16, hnum, by omega⟩
      have hbeh := hca.len
      have epost : N.drop (p + (flatC c nums row).length) = post := by
        rw [← List.drop_drop, e1, List.drop_left]
      have hrow8 : hasRow c = true → row.length ≤ 800 := fun hr => by
        have hb := hbeh
        rw [flatC_len] at hb
        unfold rowC at hb
        rw [if_pos hr, List.length_cons] at hb
        omega
      refine ⟨fun σ' H'' => ∃ (p' : Nat) (st : Option Net) (done : List Int) (cs : List (List (List Int))) (f : Nat) (r : Addr) (y4 : Option V), p' = p + (flatC c nums row).length ∧ σ' = [some (.ref ac), some (.ref a), some (.ref pt), some (.int (p' : Int)), y4] ∧ Same H H'' ∧ VAt K T.C H'' a r (net st) ∧ StOk st ∧ H'' pt = some (.lst (done.map V.int)) ∧ PyFlat.calls PyKp343.shape f (toI (N.drop p')) = some cs ∧ done ++ toldFrom st cs = toldFrom none cs0 ∧ H r = none ∧ pt ≠ r, ?_, ?_⟩
      · rintro σ' H'' ⟨p', st, done, cs, f, r, y4, rfl, rfl, u1, u2, u3, u4, u5, u6, u7, u8⟩
        have : 0 < (flatC c nums row).length := Nat.succ_pos _
        exact ⟨_, by omega, p + (flatC c nums row).length, st, done, cs, f, r, y4, rfl, u1, u2, u3, u4, hbeh, u5, u6, u7, u8, rfl⟩
      -- found = answer(vessel, calls[place], numbers_at(calls, place), row_at(calls, place))
      refine ⟨_, rfl, _, rfl, _, rfl, ac, _, _, _, rfl, rfl, hS', nV_at hca.at, ?_⟩
      refine ⟨_, rfl, _, rfl, .ref ac, N, p, c, nums, row, rfl, Dp_mono sH _ _ hx, hca, fun H2 pn ns2 s2 npn hpn hns2 => ?_⟩
      refine ⟨_, rfl, _, rfl, .ref ac, N, p, c, nums, row, rfl, Dp_mono (sH.trans s2) _ _ hx, hca, fun H3 prw rs3 s3 nprw hprw hrs3 => ?_⟩
      have hv3 := hv.same (s2.trans s3)
      have hpt3 := (s2.trans s3) _ _ hpt
      have sH3 := sH.trans (s2.trans s3)
      refine ⟨a, r, st, c, nums, row, .ref pn, .ref prw, rfl, hv3, hst, hc16, hnum, hrow8, Dp_mono s3 _ _ (.lst (SqL.of hpn) hns2), .lst (SqL.of hprw) hrs3, fun H4 pf r4 fr4 hv4 hr4 npf hpf => ?_⟩
      have hst4 := ans_ok hst c nums row
      rw [told_cons] at htold
      generalize ansOf st c nums row = an at *
      have nap : pt ≠ a := fun e => by
        obtain ⟨dx, h1⟩ := hv3.ins
        rw [← e, hpt3] at h1
        cases h1
      have hpt4 : H4 pt = some (.lst (done.map V.int)) := fr4 _ _ hpt3 nap npr
      have nr4 : H r4 = none := by
        rcases hr4 with e | e
        · rw [e]; exact nr0
        · exact sH3.free e
      have npr4 : pt ≠ r4 := by
        rcases hr4 with e | e
        · rw [e]; exact npr
        · exact ne_of_none hpt3 e
      have na0 : H a = none := na
      have sH4 : Same H H4 := fun b o hb => fr4 b o (sH3 b o hb) (ne_of_none hb na0) (ne_of_none hb nr0)
      have hlen10 : done.length + (1 + an.2.length) ≤ 10000000 := by
        have := congrArg List.length htold
        rw [List.length_append, List.length_cons, List.length_append] at this
        omega
      have hsz : (10000000 : Nat) < sizeLine := by decide
      -- told.append(len(found))
      refine ⟨_, rfl, .inl ⟨rfl, _, SqL.of hpt4⟩, _, rfl, pf, _, rfl, .inl (SqL.of hpf), pt, _, _, rfl, rfl, hpt4, by rw [List.length_map]; omega, ?_⟩
      rw [List.length_map]
      have hv5 := vat_told (o := .lst (done.map V.int ++ [.int (an.2.length : Int)])) hv4 hpt4 npr4
      have sH5 := same_mut (o := .lst (done.map V.int ++ [.int (an.2.length : Int)])) sH4 npt0
      have hpf5 : (upd H4 pt (.lst (done.map V.int ++ [.int (an.2.length : Int)]))) pf = some (.lst (an.2.map V.int)) := by
        rw [upd_ne (fun e => by rw [e, hpt3] at npf; cases npf)]
        exact hpf
      have hpt5 : (upd H4 pt (.lst (done.map V.int ++ [.int (an.2.length : Int)]))) pt = some (.lst (done.map V.int ++ [.int (an.2.length : Int)])) := upd_same
      generalize upd H4 pt (.lst (done.map V.int ++ [.int (an.2.length : Int)])) = H5 at *
      -- told.extend(found)
      refine ⟨_, rfl, .inl ⟨rfl, _, SqL.of hpt5⟩, _, rfl, pt, pf, _, _, rfl, rfl, hpt5, hpf5, ?_, ?_⟩
      · rw [List.length_append, List.length_map, List.length_map]
        show done.length + 1 + an.2.length ≤ sizeLine
        omega
      have hv6 := vat_told (o := .lst (done.map V.int ++ [.int (an.2.length : Int)] ++ an.2.map V.int)) hv5 hpt5 npr4
      have sH6 := same_mut (o := .lst (done.map V.int ++ [.int (an.2.length : Int)] ++ an.2.map V.int)) sH5 npt0
      have hpt6 : (upd H5 pt (.lst (done.map V.int ++ [.int (an.2.length : Int)] ++ an.2.map V.int))) pt = some (.lst ((done ++ ((an.2.length : Int) :: an.2)).map V.int)) := by
        rw [upd_same]
        refine congrArg (fun z => some (HO.lst z)) ?_
        rw [List.map_append, List.append_assoc]
        rfl
      generalize upd H5 pt (.lst (done.map V.int ++ [.int (an.2.length : Int)] ++ an.2.map V.int)) = H6 at *
      -- place = place_behind(calls, place)
      refine ⟨_, rfl, _, rfl, .ref ac, N, p, c, nums, row, rfl, Dp_mono sH6 _ _ hx, hca, ?_⟩
      refine ⟨_, an.1, done ++ ((an.2.length : Int) :: an.2), cs', f', r4, _, rfl, rfl, sH6, hv6, hst4, hpt6, ?_, ?_, nr4, npr4⟩
      · rw [epost]
        exact hcs'
      · rw [List.append_assoc]
        exact htold
    · have hc : ¬ (p : Int) < (((N.map fun (k : Nat) => V.int (k : Int)).length : Nat) : Int) := fun z => hc (decide_eq_true z)
      rw [List.length_map] at hc
      have : N.drop p = [] := List.drop_eq_nil_of_le (by omega)
      rw [this] at hcs
      have := calls_nil hcs
      subst this
      rw [told_nil, List.append_nil] at htold
      subst htold
      exact ⟨_, rfl, q H' pt hpt⟩
end
end Sl

namespace Sl
open PySem PySem.Spec PyProof.Rows L2
set_option maxHeartbeats 2000000 in
theorem tx_mk {K : PySem.W.Frag} {h : Heap} {mg : Str → Option Value} {C f1 f2 f3 f4 f5 f6 f7 f8 f9 f10 f11 f12 f13 f14 f15 f16 f17 f18 f19 f20 f21 f22 f23 f24 f25 f26 f27 f28 f29 f30 f31 f32 f33 f34 f35 f36 f37 f38 f39 f40 f41 f42 f43 f44 f45 f46 f47 f48 f49 f50 f51 f52 f53 f54 f55 f56 f57 f58 f59 f60 f61 f62 f63 f64 f65 f66 f67 f68 f69 f70 f71 f72 f73 : Addr} (X : K.In h) (G : h.Ns mainGlobals mg)
    {od1 an1 : Option Addr} {sl1 : Array (Option Value)} {oc1 kV1 dc1 pm1 cd1 ct1 : Value}
    {od2 an2 : Option Addr} {sl2 : Array (Option Value)} {oc2 kV2 dc2 pm2 cd2 ct2 : Value}
    {od3 an3 : Option Addr} {sl3 : Array (Option Value)} {oc3 kV3 dc3 pm3 cd3 ct3 : Value}
    {od4 an4 : Option Addr} {sl4 : Array (Option Value)} {oc4 kV4 dc4 pm4 cd4 ct4 : Value}
    {od5 an5 : Option Addr} {sl5 : Array (Option Value)} {oc5 kV5 dc5 pm5 cd5 ct5 : Value}
    {od6 an6 : Option Addr} {sl6 : Array (Option Value)} {oc6 kV6 dc6 pm6 cd6 ct6 : Value}
    {od7 an7 : Option Addr} {sl7 : Array (Option Value)} {oc7 kV7 dc7 pm7 cd7 ct7 : Value}
    {od8 an8 : Option Addr} {sl8 : Array (Option Value)} {oc8 kV8 dc8 pm8 cd8 ct8 : Value}
    {od9 an9 : Option Addr} {sl9 : Array (Option Value)} {oc9 kV9 dc9 pm9 cd9 ct9 : Value}
    {od10 an10 : Option Addr} {sl10 : Array (Option Value)} {oc10 kV10 dc10 pm10 cd10 ct10 : Value}
    {od11 an11 : Option Addr} {sl11 : Array (Option Value)} {oc11 kV11 dc11 pm11 cd11 ct11 : Value}
    {od12 an12 : Option Addr} {sl12 : Array (Option Value)} {oc12 kV12 dc12 pm12 cd12 ct12 : Value}
    {od13 an13 : Option Addr} {sl13 : Array (Option Value)} {oc13 kV13 dc13 pm13 cd13 ct13 : Value}
    {od14 an14 : Option Addr} {sl14 : Array (Option Value)} {oc14 kV14 dc14 pm14 cd14 ct14 : Value}
    {od15 an15 : Option Addr} {sl15 : Array (Option Value)} {oc15 kV15 dc15 pm15 cd15 ct15 : Value}
    {od16 an16 : Option Addr} {sl16 : Array (Option Value)} {oc16 kV16 dc16 pm16 cd16 ct16 : Value}
    {od17 an17 : Option Addr} {sl17 : Array (Option Value)} {oc17 kV17 dc17 pm17 cd17 ct17 : Value}
    {od18 an18 : Option Addr} {sl18 : Array (Option Value)} {oc18 kV18 dc18 pm18 cd18 ct18 : Value}
    {od19 an19 : Option Addr} {sl19 : Array (Option Value)} {oc19 kV19 dc19 pm19 cd19 ct19 : Value}
    {od20 an20 : Option Addr} {sl20 : Array (Option Value)} {oc20 kV20 dc20 pm20 cd20 ct20 : Value}
    {od21 an21 : Option Addr} {sl21 : Array (Option Value)} {oc21 kV21 dc21 pm21 cd21 ct21 : Value}
    {od22 an22 : Option Addr} {sl22 : Array (Option Value)} {oc22 kV22 dc22 pm22 cd22 ct22 : Value}
    {od23 an23 : Option Addr} {sl23 : Array (Option Value)} {oc23 kV23 dc23 pm23 cd23 ct23 : Value}
    {od24 an24 : Option Addr} {sl24 : Array (Option Value)} {oc24 kV24 dc24 pm24 cd24 ct24 : Value}
    {od25 an25 : Option Addr} {sl25 : Array (Option Value)} {oc25 kV25 dc25 pm25 cd25 ct25 : Value}
    {od26 an26 : Option Addr} {sl26 : Array (Option Value)} {oc26 kV26 dc26 pm26 cd26 ct26 : Value}
    {od27 an27 : Option Addr} {sl27 : Array (Option Value)} {oc27 kV27 dc27 pm27 cd27 ct27 : Value}
    {od28 an28 : Option Addr} {sl28 : Array (Option Value)} {oc28 kV28 dc28 pm28 cd28 ct28 : Value}
    {od29 an29 : Option Addr} {sl29 : Array (Option Value)} {oc29 kV29 dc29 pm29 cd29 ct29 : Value}
    {od30 an30 : Option Addr} {sl30 : Array (Option Value)} {oc30 kV30 dc30 pm30 cd30 ct30 : Value}
    {od31 an31 : Option Addr} {sl31 : Array (Option Value)} {oc31 kV31 dc31 pm31 cd31 ct31 : Value}
    {od32 an32 : Option Addr} {sl32 : Array (Option Value)} {oc32 kV32 dc32 pm32 cd32 ct32 : Value}
    {od33 an33 : Option Addr} {sl33 : Array (Option Value)} {oc33 kV33 dc33 pm33 cd33 ct33 : Value}
    {od34 an34 : Option Addr} {sl34 : Array (Option Value)} {oc34 kV34 dc34 pm34 cd34 ct34 : Value}
    {od35 an35 : Option Addr} {sl35 : Array (Option Value)} {oc35 kV35 dc35 pm35 cd35 ct35 : Value}
    {od36 an36 : Option Addr} {sl36 : Array (Option Value)} {oc36 kV36 dc36 pm36 cd36 ct36 : Value}
    {od37 an37 : Option Addr} {sl37 : Array (Option Value)} {oc37 kV37 dc37 pm37 cd37 ct37 : Value}
    {od38 an38 : Option Addr} {sl38 : Array (Option Value)} {oc38 kV38 dc38 pm38 cd38 ct38 : Value}
    {od39 an39 : Option Addr} {sl39 : Array (Option Value)} {oc39 kV39 dc39 pm39 cd39 ct39 : Value}
    {od40 an40 : Option Addr} {sl40 : Array (Option Value)} {oc40 kV40 dc40 pm40 cd40 ct40 : Value}
    {od41 an41 : Option Addr} {sl41 : Array (Option Value)} {oc41 kV41 dc41 pm41 cd41 ct41 : Value}
    {od42 an42 : Option Addr} {sl42 : Array (Option Value)} {oc42 kV42 dc42 pm42 cd42 ct42 : Value}
    {od43 an43 : Option Addr} {sl43 : Array (Option Value)} {oc43 kV43 dc43 pm43 cd43 ct43 : Value}
    {od44 an44 : Option Addr} {sl44 : Array (Option Value)} {oc44 kV44 dc44 pm44 cd44 ct44 : Value}
    {od45 an45 : Option Addr} {sl45 : Array (Option Value)} {oc45 kV45 dc45 pm45 cd45 ct45 : Value}
    {od46 an46 : Option Addr} {sl46 : Array (Option Value)} {oc46 kV46 dc46 pm46 cd46 ct46 : Value}
    {od47 an47 : Option Addr} {sl47 : Array (Option Value)} {oc47 kV47 dc47 pm47 cd47 ct47 : Value}
    {od48 an48 : Option Addr} {sl48 : Array (Option Value)} {oc48 kV48 dc48 pm48 cd48 ct48 : Value}
    {od49 an49 : Option Addr} {sl49 : Array (Option Value)} {oc49 kV49 dc49 pm49 cd49 ct49 : Value}
    {od50 an50 : Option Addr} {sl50 : Array (Option Value)} {oc50 kV50 dc50 pm50 cd50 ct50 : Value}
    {od51 an51 : Option Addr} {sl51 : Array (Option Value)} {oc51 kV51 dc51 pm51 cd51 ct51 : Value}
    {od52 an52 : Option Addr} {sl52 : Array (Option Value)} {oc52 kV52 dc52 pm52 cd52 ct52 : Value}
    {od53 an53 : Option Addr} {sl53 : Array (Option Value)} {oc53 kV53 dc53 pm53 cd53 ct53 : Value}
    {od54 an54 : Option Addr} {sl54 : Array (Option Value)} {oc54 kV54 dc54 pm54 cd54 ct54 : Value}
    {od55 an55 : Option Addr} {sl55 : Array (Option Value)} {oc55 kV55 dc55 pm55 cd55 ct55 : Value}
    {od56 an56 : Option Addr} {sl56 : Array (Option Value)} {oc56 kV56 dc56 pm56 cd56 ct56 : Value}
    {od57 an57 : Option Addr} {sl57 : Array (Option Value)} {oc57 kV57 dc57 pm57 cd57 ct57 : Value}
    {od58 an58 : Option Addr} {sl58 : Array (Option Value)} {oc58 kV58 dc58 pm58 cd58 ct58 : Value}
    {od59 an59 : Option Addr} {sl59 : Array (Option Value)} {oc59 kV59 dc59 pm59 cd59 ct59 : Value}
    {od60 an60 : Option Addr} {sl60 : Array (Option Value)} {oc60 kV60 dc60 pm60 cd60 ct60 : Value}
    {od61 an61 : Option Addr} {sl61 : Array (Option Value)} {oc61 kV61 dc61 pm61 cd61 ct61 : Value}
    {od62 an62 : Option Addr} {sl62 : Array (Option Value)} {oc62 kV62 dc62 pm62 cd62 ct62 : Value}
    {od63 an63 : Option Addr} {sl63 : Array (Option Value)} {oc63 kV63 dc63 pm63 cd63 ct63 : Value}
    {od64 an64 : Option Addr} {sl64 : Array (Option Value)} {oc64 kV64 dc64 pm64 cd64 ct64 : Value}
    {od65 an65 : Option Addr} {sl65 : Array (Option Value)} {oc65 kV65 dc65 pm65 cd65 ct65 : Value}
    {od66 an66 : Option Addr} {sl66 : Array (Option Value)} {oc66 kV66 dc66 pm66 cd66 ct66 : Value}
    {od67 an67 : Option Addr} {sl67 : Array (Option Value)} {oc67 kV67 dc67 pm67 cd67 ct67 : Value}
    {od68 an68 : Option Addr} {sl68 : Array (Option Value)} {oc68 kV68 dc68 pm68 cd68 ct68 : Value}
    {od69 an69 : Option Addr} {sl69 : Array (Option Value)} {oc69 kV69 dc69 pm69 cd69 ct69 : Value}
    {od70 an70 : Option Addr} {sl70 : Array (Option Value)} {oc70 kV70 dc70 pm70 cd70 ct70 : Value}
    {od71 an71 : Option Addr} {sl71 : Array (Option Value)} {oc71 kV71 dc71 pm71 cd71 ct71 : Value}
    {od72 an72 : Option Addr} {sl72 : Array (Option Value)} {oc72 kV72 dc72 pm72 cd72 ct72 : Value}
    {od73 an73 : Option Addr} {sl73 : Array (Option Value)} {oc73 kV73 dc73 pm73 cd73 ct73 : Value}
    {a_ZERO : Addr} {od_ZERO : Option Addr} {n_ZERO : Nat} {sl_ZERO : Array (Option Value)} {t_ZERO_0 t_ZERO_1 : Tok}
    {a_ONE : Addr} {od_ONE : Option Addr} {n_ONE : Nat} {sl_ONE : Array (Option Value)} {t_ONE_0 t_ONE_1 : Tok}
    {t_MOST_DIVISOR : Tok}
    {t_MOST_NUMBER : Tok}
    {t_NO_SUCH : Tok}
    {t_NOT_BEGUN : Tok}
    {t_RULE_IS_THERE : Tok}
    {t_WRONG : Tok}
    {t_TOO_MANY_RULES : Tok}
    {t_NOT_TOLD : Tok}
    {t_MOST_SUBSTANCES : Tok}
    {t_MOST_OF_ONE : Tok}
    {t_MOST_RULES : Tok}
    {t_MOST_IN_SPEED : Tok}
    {t_BEGIN : Tok}
    {t_RULE : Tok}
    {t_UNRULE : Tok}
    {t_RULEIS : Tok}
    {t_SPEED : Tok}
    {t_LEFTS : Tok}
    {t_RELATIONS : Tok}
    {t_RATIO : Tok}
    {t_LEVEL : Tok}
    {t_IFSPEED : Tok}
    {t_PAIRS : Tok}
    {t_SAME : Tok}
    {t_ENDS : Tok}
    {t_HIDES : Tok}
    {t_WEIGHT : Tok}
    {t_STEADY : Tok}
    {a_NUMBERS : Addr} {od_NUMBERS : Option Addr} {n_NUMBERS : Nat} {sl_NUMBERS : Array (Option Value)} {t_NUMBERS_0 t_NUMBERS_1 t_NUMBERS_2 t_NUMBERS_3 t_NUMBERS_4 t_NUMBERS_5 t_NUMBERS_6 t_NUMBERS_7 t_NUMBERS_8 t_NUMBERS_9 t_NUMBERS_10 t_NUMBERS_11 t_NUMBERS_12 t_NUMBERS_13 t_NUMBERS_14 t_NUMBERS_15 t_NUMBERS_16 : Tok}
    {a_WITH_ROW : Addr} {od_WITH_ROW : Option Addr} {n_WITH_ROW : Nat} {sl_WITH_ROW : Array (Option Value)} {t_WITH_ROW_0 t_WITH_ROW_1 t_WITH_ROW_2 t_WITH_ROW_3 : Tok}
    (a1 : PySem.W.nsIn K mainGlobals "common" = some (some (.ref f1)))
    (l1 : K.lookup f1 = some ⟨oc1, od1, .func (PySem.W.fnOf "common" "common" (defArgs sCommon) (defBody sCommon) (defScope sCommon) .none kV1 dc1 pm1 an1 cd1 ct1), sl1⟩) (c1 : PySem.W.codeIn K cd1 "common" = true) (k1 : PySem.W.keepIn K (.ref f1) = true)
    (a2 : PySem.W.nsIn K mainGlobals "lowest" = some (some (.ref f2)))
    (l2 : K.lookup f2 = some ⟨oc2, od2, .func (PySem.W.fnOf "lowest" "lowest" (defArgs sLowest) (defBody sLowest) (defScope sLowest) .none kV2 dc2 pm2 an2 cd2 ct2), sl2⟩) (c2 : PySem.W.codeIn K cd2 "lowest" = true) (k2 : PySem.W.keepIn K (.ref f2) = true)
    (a3 : PySem.W.nsIn K mainGlobals "plus" = some (some (.ref f3)))
    (l3 : K.lookup f3 = some ⟨oc3, od3, .func (PySem.W.fnOf "plus" "plus" (defArgs sPlus) (defBody sPlus) (defScope sPlus) .none kV3 dc3 pm3 an3 cd3 ct3), sl3⟩) (c3 : PySem.W.codeIn K cd3 "plus" = true) (k3 : PySem.W.keepIn K (.ref f3) = true)
    (a4 : PySem.W.nsIn K mainGlobals "minus" = some (some (.ref f4)))
    (l4 : K.lookup f4 = some ⟨oc4, od4, .func (PySem.W.fnOf "minus" "minus" (defArgs sMinus) (defBody sMinus) (defScope sMinus) .none kV4 dc4 pm4 an4 cd4 ct4), sl4⟩) (c4 : PySem.W.codeIn K cd4 "minus" = true) (k4 : PySem.W.keepIn K (.ref f4) = true)
    (a5 : PySem.W.nsIn K mainGlobals "times" = some (some (.ref f5)))
    (l5 : K.lookup f5 = some ⟨oc5, od5, .func (PySem.W.fnOf "times" "times" (defArgs sTimes) (defBody sTimes) (defScope sTimes) .none kV5 dc5 pm5 an5 cd5 ct5), sl5⟩) (c5 : PySem.W.codeIn K cd5 "times" = true) (k5 : PySem.W.keepIn K (.ref f5) = true)
    (a6 : PySem.W.nsIn K mainGlobals "over" = some (some (.ref f6)))
    (l6 : K.lookup f6 = some ⟨oc6, od6, .func (PySem.W.fnOf "over" "over" (defArgs sOver) (defBody sOver) (defScope sOver) .none kV6 dc6 pm6 an6 cd6 ct6), sl6⟩) (c6 : PySem.W.codeIn K cd6 "over" = true) (k6 : PySem.W.keepIn K (.ref f6) = true)
    (a7 : PySem.W.nsIn K mainGlobals "power" = some (some (.ref f7)))
    (l7 : K.lookup f7 = some ⟨oc7, od7, .func (PySem.W.fnOf "power" "power" (defArgs sPower) (defBody sPower) (defScope sPower) .none kV7 dc7 pm7 an7 cd7 ct7), sl7⟩) (c7 : PySem.W.codeIn K cd7 "power" = true) (k7 : PySem.W.keepIn K (.ref f7) = true)
    (a8 : PySem.W.nsIn K mainGlobals "first_with" = some (some (.ref f8)))
    (l8 : K.lookup f8 = some ⟨oc8, od8, .func (PySem.W.fnOf "first_with" "first_with" (defArgs sFirstWith) (defBody sFirstWith) (defScope sFirstWith) .none kV8 dc8 pm8 an8 cd8 ct8), sl8⟩) (c8 : PySem.W.codeIn K cd8 "first_with" = true) (k8 : PySem.W.keepIn K (.ref f8) = true)
    (a9 : PySem.W.nsIn K mainGlobals "led" = some (some (.ref f9)))
    (l9 : K.lookup f9 = some ⟨oc9, od9, .func (PySem.W.fnOf "led" "led" (defArgs sLed) (defBody sLed) (defScope sLed) .none kV9 dc9 pm9 an9 cd9 ct9), sl9⟩) (c9 : PySem.W.codeIn K cd9 "led" = true) (k9 : PySem.W.keepIn K (.ref f9) = true)
    (a10 : PySem.W.nsIn K mainGlobals "cleared" = some (some (.ref f10)))
    (l10 : K.lookup f10 = some ⟨oc10, od10, .func (PySem.W.fnOf "cleared" "cleared" (defArgs sCleared) (defBody sCleared) (defScope sCleared) .none kV10 dc10 pm10 an10 cd10 ct10), sl10⟩) (c10 : PySem.W.codeIn K cd10 "cleared" = true) (k10 : PySem.W.keepIn K (.ref f10) = true)
    (a11 : PySem.W.nsIn K mainGlobals "relations_among" = some (some (.ref f11)))
    (l11 : K.lookup f11 = some ⟨oc11, od11, .func (PySem.W.fnOf "relations_among" "relations_among" (defArgs sRelationsAmong) (defBody sRelationsAmong) (defScope sRelationsAmong) .none kV11 dc11 pm11 an11 cd11 ct11), sl11⟩) (c11 : PySem.W.codeIn K cd11 "relations_among" = true) (k11 : PySem.W.keepIn K (.ref f11) = true)
    (a12 : PySem.W.nsIn K mainGlobals "lead_column" = some (some (.ref f12)))
    (l12 : K.lookup f12 = some ⟨oc12, od12, .func (PySem.W.fnOf "lead_column" "lead_column" (defArgs sLeadColumn) (defBody sLeadColumn) (defScope sLeadColumn) .none kV12 dc12 pm12 an12 cd12 ct12), sl12⟩) (c12 : PySem.W.codeIn K cd12 "lead_column" = true) (k12 : PySem.W.keepIn K (.ref f12) = true)
    (a13 : PySem.W.nsIn K mainGlobals "weights_with" = some (some (.ref f13)))
    (l13 : K.lookup f13 = some ⟨oc13, od13, .func (PySem.W.fnOf "weights_with" "weights_with" (defArgs sWeightsWith) (defBody sWeightsWith) (defScope sWeightsWith) .none kV13 dc13 pm13 an13 cd13 ct13), sl13⟩) (c13 : PySem.W.codeIn K cd13 "weights_with" = true) (k13 : PySem.W.keepIn K (.ref f13) = true)
    (a14 : PySem.W.nsIn K mainGlobals "weights_that_could_be" = some (some (.ref f14)))
    (l14 : K.lookup f14 = some ⟨oc14, od14, .func (PySem.W.fnOf "weights_that_could_be" "weights_that_could_be" (defArgs sWeightsThatCouldBe) (defBody sWeightsThatCouldBe) (defScope sWeightsThatCouldBe) .none kV14 dc14 pm14 an14 cd14 ct14), sl14⟩) (c14 : PySem.W.codeIn K cd14 "weights_that_could_be" = true) (k14 : PySem.W.keepIn K (.ref f14) = true)
    (a15 : PySem.W.nsIn K mainGlobals "ratio_among" = some (some (.ref f15)))
    (l15 : K.lookup f15 = some ⟨oc15, od15, .func (PySem.W.fnOf "ratio_among" "ratio_among" (defArgs sRatioAmong) (defBody sRatioAmong) (defScope sRatioAmong) .none kV15 dc15 pm15 an15 cd15 ct15), sl15⟩) (c15 : PySem.W.codeIn K cd15 "ratio_among" = true) (k15 : PySem.W.keepIn K (.ref f15) = true)
    (a16 : PySem.W.nsIn K mainGlobals "mixtures_of" = some (some (.ref f16)))
    (l16 : K.lookup f16 = some ⟨oc16, od16, .func (PySem.W.fnOf "mixtures_of" "mixtures_of" (defArgs sMixturesOf) (defBody sMixturesOf) (defScope sMixturesOf) .none kV16 dc16 pm16 an16 cd16 ct16), sl16⟩) (c16 : PySem.W.codeIn K cd16 "mixtures_of" = true) (k16 : PySem.W.keepIn K (.ref f16) = true)
    (a17 : PySem.W.nsIn K mainGlobals "numbers_taken" = some (some (.ref f17)))
    (l17 : K.lookup f17 = some ⟨oc17, od17, .func (PySem.W.fnOf "numbers_taken" "numbers_taken" (defArgs sNumbersTaken) (defBody sNumbersTaken) (defScope sNumbersTaken) .none kV17 dc17 pm17 an17 cd17 ct17), sl17⟩) (c17 : PySem.W.codeIn K cd17 "numbers_taken" = true) (k17 : PySem.W.keepIn K (.ref f17) = true)
    (a18 : PySem.W.nsIn K mainGlobals "mixtures_taken" = some (some (.ref f18)))
    (l18 : K.lookup f18 = some ⟨oc18, od18, .func (PySem.W.fnOf "mixtures_taken" "mixtures_taken" (defArgs sMixturesTaken) (defBody sMixturesTaken) (defScope sMixturesTaken) .none kV18 dc18 pm18 an18 cd18 ct18), sl18⟩) (c18 : PySem.W.codeIn K cd18 "mixtures_taken" = true) (k18 : PySem.W.keepIn K (.ref f18) = true)
    (a19 : PySem.W.nsIn K mainGlobals "brought" = some (some (.ref f19)))
    (l19 : K.lookup f19 = some ⟨oc19, od19, .func (PySem.W.fnOf "brought" "brought" (defArgs sBrought) (defBody sBrought) (defScope sBrought) .none kV19 dc19 pm19 an19 cd19 ct19), sl19⟩) (c19 : PySem.W.codeIn K cd19 "brought" = true) (k19 : PySem.W.keepIn K (.ref f19) = true)
    (a20 : PySem.W.nsIn K mainGlobals "relations_of" = some (some (.ref f20)))
    (l20 : K.lookup f20 = some ⟨oc20, od20, .func (PySem.W.fnOf "relations_of" "relations_of" (defArgs sRelationsOf) (defBody sRelationsOf) (defScope sRelationsOf) .none kV20 dc20 pm20 an20 cd20 ct20), sl20⟩) (c20 : PySem.W.codeIn K cd20 "relations_of" = true) (k20 : PySem.W.keepIn K (.ref f20) = true)
    (a21 : PySem.W.nsIn K mainGlobals "choices_of" = some (some (.ref f21)))
    (l21 : K.lookup f21 = some ⟨oc21, od21, .func (PySem.W.fnOf "choices_of" "choices_of" (defArgs sChoicesOf) (defBody sChoicesOf) (defScope sChoicesOf) .none kV21 dc21 pm21 an21 cd21 ct21), sl21⟩) (c21 : PySem.W.codeIn K cd21 "choices_of" = true) (k21 : PySem.W.keepIn K (.ref f21) = true)
    (a22 : PySem.W.nsIn K mainGlobals "ratio_of" = some (some (.ref f22)))
    (l22 : K.lookup f22 = some ⟨oc22, od22, .func (PySem.W.fnOf "ratio_of" "ratio_of" (defArgs sRatioOf) (defBody sRatioOf) (defScope sRatioOf) .none kV22 dc22 pm22 an22 cd22 ct22), sl22⟩) (c22 : PySem.W.codeIn K cd22 "ratio_of" = true) (k22 : PySem.W.keepIn K (.ref f22) = true)
    (a23 : PySem.W.nsIn K mainGlobals "more_by" = some (some (.ref f23)))
    (l23 : K.lookup f23 = some ⟨oc23, od23, .func (PySem.W.fnOf "more_by" "more_by" (defArgs sMoreBy) (defBody sMoreBy) (defScope sMoreBy) .none kV23 dc23 pm23 an23 cd23 ct23), sl23⟩) (c23 : PySem.W.codeIn K cd23 "more_by" = true) (k23 : PySem.W.keepIn K (.ref f23) = true)
    (a24 : PySem.W.nsIn K mainGlobals "level_of" = some (some (.ref f24)))
    (l24 : K.lookup f24 = some ⟨oc24, od24, .func (PySem.W.fnOf "level_of" "level_of" (defArgs sLevelOf) (defBody sLevelOf) (defScope sLevelOf) .none kV24 dc24 pm24 an24 cd24 ct24), sl24⟩) (c24 : PySem.W.codeIn K cd24 "level_of" = true) (k24 : PySem.W.keepIn K (.ref f24) = true)
    (a25 : PySem.W.nsIn K mainGlobals "steps_forwards" = some (some (.ref f25)))
    (l25 : K.lookup f25 = some ⟨oc25, od25, .func (PySem.W.fnOf "steps_forwards" "steps_forwards" (defArgs sStepsForwards) (defBody sStepsForwards) (defScope sStepsForwards) .none kV25 dc25 pm25 an25 cd25 ct25), sl25⟩) (c25 : PySem.W.codeIn K cd25 "steps_forwards" = true) (k25 : PySem.W.keepIn K (.ref f25) = true)
    (a26 : PySem.W.nsIn K mainGlobals "steps_both_ways" = some (some (.ref f26)))
    (l26 : K.lookup f26 = some ⟨oc26, od26, .func (PySem.W.fnOf "steps_both_ways" "steps_both_ways" (defArgs sStepsBothWays) (defBody sStepsBothWays) (defScope sStepsBothWays) .none kV26 dc26 pm26 an26 cd26 ct26), sl26⟩) (c26 : PySem.W.codeIn K cd26 "steps_both_ways" = true) (k26 : PySem.W.keepIn K (.ref f26) = true)
    (a27 : PySem.W.nsIn K mainGlobals "all_come_to" = some (some (.ref f27)))
    (l27 : K.lookup f27 = some ⟨oc27, od27, .func (PySem.W.fnOf "all_come_to" "all_come_to" (defArgs sAllComeTo) (defBody sAllComeTo) (defScope sAllComeTo) .none kV27 dc27 pm27 an27 cd27 ct27), sl27⟩) (c27 : PySem.W.codeIn K cd27 "all_come_to" = true) (k27 : PySem.W.keepIn K (.ref f27) = true)
    (a28 : PySem.W.nsIn K mainGlobals "stays" = some (some (.ref f28)))
    (l28 : K.lookup f28 = some ⟨oc28, od28, .func (PySem.W.fnOf "stays" "stays" (defArgs sStays) (defBody sStays) (defScope sStays) .none kV28 dc28 pm28 an28 cd28 ct28), sl28⟩) (c28 : PySem.W.codeIn K cd28 "stays" = true) (k28 : PySem.W.keepIn K (.ref f28) = true)
    (a29 : PySem.W.nsIn K mainGlobals "numbers_staying" = some (some (.ref f29)))
    (l29 : K.lookup f29 = some ⟨oc29, od29, .func (PySem.W.fnOf "numbers_staying" "numbers_staying" (defArgs sNumbersStaying) (defBody sNumbersStaying) (defScope sNumbersStaying) .none kV29 dc29 pm29 an29 cd29 ct29), sl29⟩) (c29 : PySem.W.codeIn K cd29 "numbers_staying" = true) (k29 : PySem.W.keepIn K (.ref f29) = true)
    (a30 : PySem.W.nsIn K mainGlobals "classes_of" = some (some (.ref f30)))
    (l30 : K.lookup f30 = some ⟨oc30, od30, .func (PySem.W.fnOf "classes_of" "classes_of" (defArgs sClassesOf) (defBody sClassesOf) (defScope sClassesOf) .none kV30 dc30 pm30 an30 cd30 ct30), sl30⟩) (c30 : PySem.W.codeIn K cd30 "classes_of" = true) (k30 : PySem.W.keepIn K (.ref f30) = true)
    (a31 : PySem.W.nsIn K mainGlobals "how_many_hidden" = some (some (.ref f31)))
    (l31 : K.lookup f31 = some ⟨oc31, od31, .func (PySem.W.fnOf "how_many_hidden" "how_many_hidden" (defArgs sHowManyHidden) (defBody sHowManyHidden) (defScope sHowManyHidden) .none kV31 dc31 pm31 an31 cd31 ct31), sl31⟩) (c31 : PySem.W.codeIn K cd31 "how_many_hidden" = true) (k31 : PySem.W.keepIn K (.ref f31) = true)
    (a32 : PySem.W.nsIn K mainGlobals "more_of" = some (some (.ref f32)))
    (l32 : K.lookup f32 = some ⟨oc32, od32, .func (PySem.W.fnOf "more_of" "more_of" (defArgs sMoreOf) (defBody sMoreOf) (defScope sMoreOf) .none kV32 dc32 pm32 an32 cd32 ct32), sl32⟩) (c32 : PySem.W.codeIn K cd32 "more_of" = true) (k32 : PySem.W.keepIn K (.ref f32) = true)
    (a33 : PySem.W.nsIn K mainGlobals "pairs_of" = some (some (.ref f33)))
    (l33 : K.lookup f33 = some ⟨oc33, od33, .func (PySem.W.fnOf "pairs_of" "pairs_of" (defArgs sPairsOf) (defBody sPairsOf) (defScope sPairsOf) .none kV33 dc33 pm33 an33 cd33 ct33), sl33⟩) (c33 : PySem.W.codeIn K cd33 "pairs_of" = true) (k33 : PySem.W.keepIn K (.ref f33) = true)
    (a34 : PySem.W.nsIn K mainGlobals "substances_paired" = some (some (.ref f34)))
    (l34 : K.lookup f34 = some ⟨oc34, od34, .func (PySem.W.fnOf "substances_paired" "substances_paired" (defArgs sSubstancesPaired) (defBody sSubstancesPaired) (defScope sSubstancesPaired) .none kV34 dc34 pm34 an34 cd34 ct34), sl34⟩) (c34 : PySem.W.codeIn K cd34 "substances_paired" = true) (k34 : PySem.W.keepIn K (.ref f34) = true)
    (a35 : PySem.W.nsIn K mainGlobals "makes_point" = some (some (.ref f35)))
    (l35 : K.lookup f35 = some ⟨oc35, od35, .func (PySem.W.fnOf "makes_point" "makes_point" (defArgs sMakesPoint) (defBody sMakesPoint) (defScope sMakesPoint) .none kV35 dc35 pm35 an35 cd35 ct35), sl35⟩) (c35 : PySem.W.codeIn K cd35 "makes_point" = true) (k35 : PySem.W.keepIn K (.ref f35) = true)
    (a36 : PySem.W.nsIn K mainGlobals "amounts_at" = some (some (.ref f36)))
    (l36 : K.lookup f36 = some ⟨oc36, od36, .func (PySem.W.fnOf "amounts_at" "amounts_at" (defArgs sAmountsAt) (defBody sAmountsAt) (defScope sAmountsAt) .none kV36 dc36 pm36 an36 cd36 ct36), sl36⟩) (c36 : PySem.W.codeIn K cd36 "amounts_at" = true) (k36 : PySem.W.keepIn K (.ref f36) = true)
    (a37 : PySem.W.nsIn K mainGlobals "weight_of" = some (some (.ref f37)))
    (l37 : K.lookup f37 = some ⟨oc37, od37, .func (PySem.W.fnOf "weight_of" "weight_of" (defArgs sWeightOf) (defBody sWeightOf) (defScope sWeightOf) .none kV37 dc37 pm37 an37 cd37 ct37), sl37⟩) (c37 : PySem.W.codeIn K cd37 "weight_of" = true) (k37 : PySem.W.keepIn K (.ref f37) = true)
    (a38 : PySem.W.nsIn K mainGlobals "change_of" = some (some (.ref f38)))
    (l38 : K.lookup f38 = some ⟨oc38, od38, .func (PySem.W.fnOf "change_of" "change_of" (defArgs sChangeOf) (defBody sChangeOf) (defScope sChangeOf) .none kV38 dc38 pm38 an38 cd38 ct38), sl38⟩) (c38 : PySem.W.codeIn K cd38 "change_of" = true) (k38 : PySem.W.keepIn K (.ref f38) = true)
    (a39 : PySem.W.nsIn K mainGlobals "is_steady" = some (some (.ref f39)))
    (l39 : K.lookup f39 = some ⟨oc39, od39, .func (PySem.W.fnOf "is_steady" "is_steady" (defArgs sIsSteady) (defBody sIsSteady) (defScope sIsSteady) .none kV39 dc39 pm39 an39 cd39 ct39), sl39⟩) (c39 : PySem.W.codeIn K cd39 "is_steady" = true) (k39 : PySem.W.keepIn K (.ref f39) = true)
    (a40 : PySem.W.nsIn K mainGlobals "is_met" = some (some (.ref f40)))
    (l40 : K.lookup f40 = some ⟨oc40, od40, .func (PySem.W.fnOf "is_met" "is_met" (defArgs sIsMet) (defBody sIsMet) (defScope sIsMet) .none kV40 dc40 pm40 an40 cd40 ct40), sl40⟩) (c40 : PySem.W.codeIn K cd40 "is_met" = true) (k40 : PySem.W.keepIn K (.ref f40) = true)
    (a41 : PySem.W.nsIn K mainGlobals "makes_rule" = some (some (.ref f41)))
    (l41 : K.lookup f41 = some ⟨oc41, od41, .func (PySem.W.fnOf "makes_rule" "makes_rule" (defArgs sMakesRule) (defBody sMakesRule) (defScope sMakesRule) .none kV41 dc41 pm41 an41 cd41 ct41), sl41⟩) (c41 : PySem.W.codeIn K cd41 "makes_rule" = true) (k41 : PySem.W.keepIn K (.ref f41) = true)
    (a42 : PySem.W.nsIn K mainGlobals "makes_speed" = some (some (.ref f42)))
    (l42 : K.lookup f42 = some ⟨oc42, od42, .func (PySem.W.fnOf "makes_speed" "makes_speed" (defArgs sMakesSpeed) (defBody sMakesSpeed) (defScope sMakesSpeed) .none kV42 dc42 pm42 an42 cd42 ct42), sl42⟩) (c42 : PySem.W.codeIn K cd42 "makes_speed" = true) (k42 : PySem.W.keepIn K (.ref f42) = true)
    (a43 : PySem.W.nsIn K mainGlobals "rules_at" = some (some (.ref f43)))
    (l43 : K.lookup f43 = some ⟨oc43, od43, .func (PySem.W.fnOf "rules_at" "rules_at" (defArgs sRulesAt) (defBody sRulesAt) (defScope sRulesAt) .none kV43 dc43 pm43 an43 cd43 ct43), sl43⟩) (c43 : PySem.W.codeIn K cd43 "rules_at" = true) (k43 : PySem.W.keepIn K (.ref f43) = true)
    (a44 : PySem.W.nsIn K mainGlobals "level_told" = some (some (.ref f44)))
    (l44 : K.lookup f44 = some ⟨oc44, od44, .func (PySem.W.fnOf "level_told" "level_told" (defArgs sLevelTold) (defBody sLevelTold) (defScope sLevelTold) .none kV44 dc44 pm44 an44 cd44 ct44), sl44⟩) (c44 : PySem.W.codeIn K cd44 "level_told" = true) (k44 : PySem.W.keepIn K (.ref f44) = true)
    (a45 : PySem.W.findIn K (.ref C) "__init__" = some (some (.ref f45))) (i45 : PySem.W.isFn K (.ref f45) = true)
    (l45 : K.lookup f45 = some ⟨oc45, od45, .func (PySem.W.fnOf "__init__" "Vessel.__init__" (defArgs sVesselInit) (defBody sVesselInit) (defScope sVesselInit) .none kV45 dc45 pm45 an45 cd45 ct45), sl45⟩) (c45 : PySem.W.codeIn K cd45 "Vessel.__init__" = true) (k45 : PySem.W.keepIn K (.ref f45) = true)
    (a46 : PySem.W.findIn K (.ref C) "has_begun" = some (some (.ref f46))) (i46 : PySem.W.isFn K (.ref f46) = true)
    (l46 : K.lookup f46 = some ⟨oc46, od46, .func (PySem.W.fnOf "has_begun" "Vessel.has_begun" (defArgs sVesselHasBegun) (defBody sVesselHasBegun) (defScope sVesselHasBegun) .none kV46 dc46 pm46 an46 cd46 ct46), sl46⟩) (c46 : PySem.W.codeIn K cd46 "Vessel.has_begun" = true) (k46 : PySem.W.keepIn K (.ref f46) = true)
    (a47 : PySem.W.findIn K (.ref C) "has_rule" = some (some (.ref f47))) (i47 : PySem.W.isFn K (.ref f47) = true)
    (l47 : K.lookup f47 = some ⟨oc47, od47, .func (PySem.W.fnOf "has_rule" "Vessel.has_rule" (defArgs sVesselHasRule) (defBody sVesselHasRule) (defScope sVesselHasRule) .none kV47 dc47 pm47 an47 cd47 ct47), sl47⟩) (c47 : PySem.W.codeIn K cd47 "Vessel.has_rule" = true) (k47 : PySem.W.keepIn K (.ref f47) = true)
    (a48 : PySem.W.findIn K (.ref C) "begin" = some (some (.ref f48))) (i48 : PySem.W.isFn K (.ref f48) = true)
    (l48 : K.lookup f48 = some ⟨oc48, od48, .func (PySem.W.fnOf "begin" "Vessel.begin" (defArgs sVesselBegin) (defBody sVesselBegin) (defScope sVesselBegin) .none kV48 dc48 pm48 an48 cd48 ct48), sl48⟩) (c48 : PySem.W.codeIn K cd48 "Vessel.begin" = true) (k48 : PySem.W.keepIn K (.ref f48) = true)
    (a49 : PySem.W.findIn K (.ref C) "rule" = some (some (.ref f49))) (i49 : PySem.W.isFn K (.ref f49) = true)
    (l49 : K.lookup f49 = some ⟨oc49, od49, .func (PySem.W.fnOf "rule" "Vessel.rule" (defArgs sVesselRule) (defBody sVesselRule) (defScope sVesselRule) .none kV49 dc49 pm49 an49 cd49 ct49), sl49⟩) (c49 : PySem.W.codeIn K cd49 "Vessel.rule" = true) (k49 : PySem.W.keepIn K (.ref f49) = true)
    (a50 : PySem.W.findIn K (.ref C) "unrule" = some (some (.ref f50))) (i50 : PySem.W.isFn K (.ref f50) = true)
    (l50 : K.lookup f50 = some ⟨oc50, od50, .func (PySem.W.fnOf "unrule" "Vessel.unrule" (defArgs sVesselUnrule) (defBody sVesselUnrule) (defScope sVesselUnrule) .none kV50 dc50 pm50 an50 cd50 ct50), sl50⟩) (c50 : PySem.W.codeIn K cd50 "Vessel.unrule" = true) (k50 : PySem.W.keepIn K (.ref f50) = true)
    (a51 : PySem.W.findIn K (.ref C) "ruleis" = some (some (.ref f51))) (i51 : PySem.W.isFn K (.ref f51) = true)
    (l51 : K.lookup f51 = some ⟨oc51, od51, .func (PySem.W.fnOf "ruleis" "Vessel.ruleis" (defArgs sVesselRuleis) (defBody sVesselRuleis) (defScope sVesselRuleis) .none kV51 dc51 pm51 an51 cd51 ct51), sl51⟩) (c51 : PySem.W.codeIn K cd51 "Vessel.ruleis" = true) (k51 : PySem.W.keepIn K (.ref f51) = true)
    (a52 : PySem.W.findIn K (.ref C) "speed" = some (some (.ref f52))) (i52 : PySem.W.isFn K (.ref f52) = true)
    (l52 : K.lookup f52 = some ⟨oc52, od52, .func (PySem.W.fnOf "speed" "Vessel.speed" (defArgs sVesselSpeed) (defBody sVesselSpeed) (defScope sVesselSpeed) .none kV52 dc52 pm52 an52 cd52 ct52), sl52⟩) (c52 : PySem.W.codeIn K cd52 "Vessel.speed" = true) (k52 : PySem.W.keepIn K (.ref f52) = true)
    (a53 : PySem.W.findIn K (.ref C) "lefts" = some (some (.ref f53))) (i53 : PySem.W.isFn K (.ref f53) = true)
    (l53 : K.lookup f53 = some ⟨oc53, od53, .func (PySem.W.fnOf "lefts" "Vessel.lefts" (defArgs sVesselLefts) (defBody sVesselLefts) (defScope sVesselLefts) .none kV53 dc53 pm53 an53 cd53 ct53), sl53⟩) (c53 : PySem.W.codeIn K cd53 "Vessel.lefts" = true) (k53 : PySem.W.keepIn K (.ref f53) = true)
    (a54 : PySem.W.findIn K (.ref C) "relations" = some (some (.ref f54))) (i54 : PySem.W.isFn K (.ref f54) = true)
    (l54 : K.lookup f54 = some ⟨oc54, od54, .func (PySem.W.fnOf "relations" "Vessel.relations" (defArgs sVesselRelations) (defBody sVesselRelations) (defScope sVesselRelations) .none kV54 dc54 pm54 an54 cd54 ct54), sl54⟩) (c54 : PySem.W.codeIn K cd54 "Vessel.relations" = true) (k54 : PySem.W.keepIn K (.ref f54) = true)
    (a55 : PySem.W.findIn K (.ref C) "ratio" = some (some (.ref f55))) (i55 : PySem.W.isFn K (.ref f55) = true)
    (l55 : K.lookup f55 = some ⟨oc55, od55, .func (PySem.W.fnOf "ratio" "Vessel.ratio" (defArgs sVesselRatio) (defBody sVesselRatio) (defScope sVesselRatio) .none kV55 dc55 pm55 an55 cd55 ct55), sl55⟩) (c55 : PySem.W.codeIn K cd55 "Vessel.ratio" = true) (k55 : PySem.W.keepIn K (.ref f55) = true)
    (a56 : PySem.W.findIn K (.ref C) "level" = some (some (.ref f56))) (i56 : PySem.W.isFn K (.ref f56) = true)
    (l56 : K.lookup f56 = some ⟨oc56, od56, .func (PySem.W.fnOf "level" "Vessel.level" (defArgs sVesselLevel) (defBody sVesselLevel) (defScope sVesselLevel) .none kV56 dc56 pm56 an56 cd56 ct56), sl56⟩) (c56 : PySem.W.codeIn K cd56 "Vessel.level" = true) (k56 : PySem.W.keepIn K (.ref f56) = true)
    (a57 : PySem.W.findIn K (.ref C) "ifspeed" = some (some (.ref f57))) (i57 : PySem.W.isFn K (.ref f57) = true)
    (l57 : K.lookup f57 = some ⟨oc57, od57, .func (PySem.W.fnOf "ifspeed" "Vessel.ifspeed" (defArgs sVesselIfspeed) (defBody sVesselIfspeed) (defScope sVesselIfspeed) .none kV57 dc57 pm57 an57 cd57 ct57), sl57⟩) (c57 : PySem.W.codeIn K cd57 "Vessel.ifspeed" = true) (k57 : PySem.W.keepIn K (.ref f57) = true)
    (a58 : PySem.W.findIn K (.ref C) "pairs" = some (some (.ref f58))) (i58 : PySem.W.isFn K (.ref f58) = true)
    (l58 : K.lookup f58 = some ⟨oc58, od58, .func (PySem.W.fnOf "pairs" "Vessel.pairs" (defArgs sVesselPairs) (defBody sVesselPairs) (defScope sVesselPairs) .none kV58 dc58 pm58 an58 cd58 ct58), sl58⟩) (c58 : PySem.W.codeIn K cd58 "Vessel.pairs" = true) (k58 : PySem.W.keepIn K (.ref f58) = true)
    (a59 : PySem.W.findIn K (.ref C) "same" = some (some (.ref f59))) (i59 : PySem.W.isFn K (.ref f59) = true)
    (l59 : K.lookup f59 = some ⟨oc59, od59, .func (PySem.W.fnOf "same" "Vessel.same" (defArgs sVesselSame) (defBody sVesselSame) (defScope sVesselSame) .none kV59 dc59 pm59 an59 cd59 ct59), sl59⟩) (c59 : PySem.W.codeIn K cd59 "Vessel.same" = true) (k59 : PySem.W.keepIn K (.ref f59) = true)
    (a60 : PySem.W.findIn K (.ref C) "ends" = some (some (.ref f60))) (i60 : PySem.W.isFn K (.ref f60) = true)
    (l60 : K.lookup f60 = some ⟨oc60, od60, .func (PySem.W.fnOf "ends" "Vessel.ends" (defArgs sVesselEnds) (defBody sVesselEnds) (defScope sVesselEnds) .none kV60 dc60 pm60 an60 cd60 ct60), sl60⟩) (c60 : PySem.W.codeIn K cd60 "Vessel.ends" = true) (k60 : PySem.W.keepIn K (.ref f60) = true)
    (a61 : PySem.W.findIn K (.ref C) "hides" = some (some (.ref f61))) (i61 : PySem.W.isFn K (.ref f61) = true)
    (l61 : K.lookup f61 = some ⟨oc61, od61, .func (PySem.W.fnOf "hides" "Vessel.hides" (defArgs sVesselHides) (defBody sVesselHides) (defScope sVesselHides) .none kV61 dc61 pm61 an61 cd61 ct61), sl61⟩) (c61 : PySem.W.codeIn K cd61 "Vessel.hides" = true) (k61 : PySem.W.keepIn K (.ref f61) = true)
    (a62 : PySem.W.findIn K (.ref C) "weight" = some (some (.ref f62))) (i62 : PySem.W.isFn K (.ref f62) = true)
    (l62 : K.lookup f62 = some ⟨oc62, od62, .func (PySem.W.fnOf "weight" "Vessel.weight" (defArgs sVesselWeight) (defBody sVesselWeight) (defScope sVesselWeight) .none kV62 dc62 pm62 an62 cd62 ct62), sl62⟩) (c62 : PySem.W.codeIn K cd62 "Vessel.weight" = true) (k62 : PySem.W.keepIn K (.ref f62) = true)
    (a63 : PySem.W.findIn K (.ref C) "steady" = some (some (.ref f63))) (i63 : PySem.W.isFn K (.ref f63) = true)
    (l63 : K.lookup f63 = some ⟨oc63, od63, .func (PySem.W.fnOf "steady" "Vessel.steady" (defArgs sVesselSteady) (defBody sVesselSteady) (defScope sVesselSteady) .none kV63 dc63 pm63 an63 cd63 ct63), sl63⟩) (c63 : PySem.W.codeIn K cd63 "Vessel.steady" = true) (k63 : PySem.W.keepIn K (.ref f63) = true)
    (a64 : PySem.W.findIn K (.ref C) "met" = some (some (.ref f64))) (i64 : PySem.W.isFn K (.ref f64) = true)
    (l64 : K.lookup f64 = some ⟨oc64, od64, .func (PySem.W.fnOf "met" "Vessel.met" (defArgs sVesselMet) (defBody sVesselMet) (defScope sVesselMet) .none kV64 dc64 pm64 an64 cd64 ct64), sl64⟩) (c64 : PySem.W.codeIn K cd64 "Vessel.met" = true) (k64 : PySem.W.keepIn K (.ref f64) = true)
    (a65 : PySem.W.nsIn K mainGlobals "numbers_at" = some (some (.ref f65)))
    (l65 : K.lookup f65 = some ⟨oc65, od65, .func (PySem.W.fnOf "numbers_at" "numbers_at" (defArgs sNumbersAt) (defBody sNumbersAt) (defScope sNumbersAt) .none kV65 dc65 pm65 an65 cd65 ct65), sl65⟩) (c65 : PySem.W.codeIn K cd65 "numbers_at" = true) (k65 : PySem.W.keepIn K (.ref f65) = true)
    (a66 : PySem.W.nsIn K mainGlobals "row_at" = some (some (.ref f66)))
    (l66 : K.lookup f66 = some ⟨oc66, od66, .func (PySem.W.fnOf "row_at" "row_at" (defArgs sRowAt) (defBody sRowAt) (defScope sRowAt) .none kV66 dc66 pm66 an66 cd66 ct66), sl66⟩) (c66 : PySem.W.codeIn K cd66 "row_at" = true) (k66 : PySem.W.keepIn K (.ref f66) = true)
    (a67 : PySem.W.nsIn K mainGlobals "place_behind" = some (some (.ref f67)))
    (l67 : K.lookup f67 = some ⟨oc67, od67, .func (PySem.W.fnOf "place_behind" "place_behind" (defArgs sPlaceBehind) (defBody sPlaceBehind) (defScope sPlaceBehind) .none kV67 dc67 pm67 an67 cd67 ct67), sl67⟩) (c67 : PySem.W.codeIn K cd67 "place_behind" = true) (k67 : PySem.W.keepIn K (.ref f67) = true)
    (a68 : PySem.W.nsIn K mainGlobals "answer_on_rules" = some (some (.ref f68)))
    (l68 : K.lookup f68 = some ⟨oc68, od68, .func (PySem.W.fnOf "answer_on_rules" "answer_on_rules" (defArgs sAnswerOnRules) (defBody sAnswerOnRules) (defScope sAnswerOnRules) .none kV68 dc68 pm68 an68 cd68 ct68), sl68⟩) (c68 : PySem.W.codeIn K cd68 "answer_on_rules" = true) (k68 : PySem.W.keepIn K (.ref f68) = true)
    (a69 : PySem.W.nsIn K mainGlobals "answer_by_sums" = some (some (.ref f69)))
    (l69 : K.lookup f69 = some ⟨oc69, od69, .func (PySem.W.fnOf "answer_by_sums" "answer_by_sums" (defArgs sAnswerBySums) (defBody sAnswerBySums) (defScope sAnswerBySums) .none kV69 dc69 pm69 an69 cd69 ct69), sl69⟩) (c69 : PySem.W.codeIn K cd69 "answer_by_sums" = true) (k69 : PySem.W.keepIn K (.ref f69) = true)
    (a70 : PySem.W.nsIn K mainGlobals "answer_by_knot" = some (some (.ref f70)))
    (l70 : K.lookup f70 = some ⟨oc70, od70, .func (PySem.W.fnOf "answer_by_knot" "answer_by_knot" (defArgs sAnswerByKnot) (defBody sAnswerByKnot) (defScope sAnswerByKnot) .none kV70 dc70 pm70 an70 cd70 ct70), sl70⟩) (c70 : PySem.W.codeIn K cd70 "answer_by_knot" = true) (k70 : PySem.W.keepIn K (.ref f70) = true)
    (a71 : PySem.W.nsIn K mainGlobals "answer_at_point" = some (some (.ref f71)))
    (l71 : K.lookup f71 = some ⟨oc71, od71, .func (PySem.W.fnOf "answer_at_point" "answer_at_point" (defArgs sAnswerAtPoint) (defBody sAnswerAtPoint) (defScope sAnswerAtPoint) .none kV71 dc71 pm71 an71 cd71 ct71), sl71⟩) (c71 : PySem.W.codeIn K cd71 "answer_at_point" = true) (k71 : PySem.W.keepIn K (.ref f71) = true)
    (a72 : PySem.W.nsIn K mainGlobals "answer" = some (some (.ref f72)))
    (l72 : K.lookup f72 = some ⟨oc72, od72, .func (PySem.W.fnOf "answer" "answer" (defArgs sAnswer) (defBody sAnswer) (defScope sAnswer) .none kV72 dc72 pm72 an72 cd72 ct72), sl72⟩) (c72 : PySem.W.codeIn K cd72 "answer" = true) (k72 : PySem.W.keepIn K (.ref f72) = true)
    (a73 : PySem.W.nsIn K mainGlobals "answers" = some (some (.ref f73)))
    (l73 : K.lookup f73 = some ⟨oc73, od73, .func (PySem.W.fnOf "answers" "answers" (defArgs sAnswers) (defBody sAnswers) (defScope sAnswers) .none kV73 dc73 pm73 an73 cd73 ct73), sl73⟩) (c73 : PySem.W.codeIn K cd73 "answers" = true) (k73 : PySem.W.keepIn K (.ref f73) = true)
    (c_ZERO : PySem.W.nsIn K mainGlobals "ZERO" = some (some (.ref a_ZERO))) (l_ZERO : K.lookup a_ZERO = some ⟨.type "tuple", od_ZERO, .seq #[.int (0) t_ZERO_0, .int (1) t_ZERO_1] n_ZERO, sl_ZERO⟩)
    (c_ONE : PySem.W.nsIn K mainGlobals "ONE" = some (some (.ref a_ONE))) (l_ONE : K.lookup a_ONE = some ⟨.type "tuple", od_ONE, .seq #[.int (1) t_ONE_0, .int (1) t_ONE_1] n_ONE, sl_ONE⟩)
    (c_MOST_DIVISOR : PySem.W.nsIn K mainGlobals "MOST_DIVISOR" = some (some (.int (60) t_MOST_DIVISOR)))
    (c_MOST_NUMBER : PySem.W.nsIn K mainGlobals "MOST_NUMBER" = some (some (.int (1000) t_MOST_NUMBER)))
    (c_NO_SUCH : PySem.W.nsIn K mainGlobals "NO_SUCH" = some (some (.int (-2) t_NO_SUCH)))
    (c_NOT_BEGUN : PySem.W.nsIn K mainGlobals "NOT_BEGUN" = some (some (.int (-11) t_NOT_BEGUN)))
    (c_RULE_IS_THERE : PySem.W.nsIn K mainGlobals "RULE_IS_THERE" = some (some (.int (-17) t_RULE_IS_THERE)))
    (c_WRONG : PySem.W.nsIn K mainGlobals "WRONG" = some (some (.int (-22) t_WRONG)))
    (c_TOO_MANY_RULES : PySem.W.nsIn K mainGlobals "TOO_MANY_RULES" = some (some (.int (-28) t_TOO_MANY_RULES)))
    (c_NOT_TOLD : PySem.W.nsIn K mainGlobals "NOT_TOLD" = some (some (.int (-33) t_NOT_TOLD)))
    (c_MOST_SUBSTANCES : PySem.W.nsIn K mainGlobals "MOST_SUBSTANCES" = some (some (.int (4) t_MOST_SUBSTANCES)))
    (c_MOST_OF_ONE : PySem.W.nsIn K mainGlobals "MOST_OF_ONE" = some (some (.int (3) t_MOST_OF_ONE)))
    (c_MOST_RULES : PySem.W.nsIn K mainGlobals "MOST_RULES" = some (some (.int (8) t_MOST_RULES)))
    (c_MOST_IN_SPEED : PySem.W.nsIn K mainGlobals "MOST_IN_SPEED" = some (some (.int (1000) t_MOST_IN_SPEED)))
    (c_BEGIN : PySem.W.nsIn K mainGlobals "BEGIN" = some (some (.int (0) t_BEGIN)))
    (c_RULE : PySem.W.nsIn K mainGlobals "RULE" = some (some (.int (1) t_RULE)))
    (c_UNRULE : PySem.W.nsIn K mainGlobals "UNRULE" = some (some (.int (2) t_UNRULE)))
    (c_RULEIS : PySem.W.nsIn K mainGlobals "RULEIS" = some (some (.int (3) t_RULEIS)))
    (c_SPEED : PySem.W.nsIn K mainGlobals "SPEED" = some (some (.int (4) t_SPEED)))
    (c_LEFTS : PySem.W.nsIn K mainGlobals "LEFTS" = some (some (.int (5) t_LEFTS)))
    (c_RELATIONS : PySem.W.nsIn K mainGlobals "RELATIONS" = some (some (.int (6) t_RELATIONS)))
    (c_RATIO : PySem.W.nsIn K mainGlobals "RATIO" = some (some (.int (7) t_RATIO)))
    (c_LEVEL : PySem.W.nsIn K mainGlobals "LEVEL" = some (some (.int (8) t_LEVEL)))
    (c_IFSPEED : PySem.W.nsIn K mainGlobals "IFSPEED" = some (some (.int (9) t_IFSPEED)))
    (c_PAIRS : PySem.W.nsIn K mainGlobals "PAIRS" = some (some (.int (10) t_PAIRS)))
    (c_SAME : PySem.W.nsIn K mainGlobals "SAME" = some (some (.int (11) t_SAME)))
    (c_ENDS : PySem.W.nsIn K mainGlobals "ENDS" = some (some (.int (12) t_ENDS)))
    (c_HIDES : PySem.W.nsIn K mainGlobals "HIDES" = some (some (.int (13) t_HIDES)))
    (c_WEIGHT : PySem.W.nsIn K mainGlobals "WEIGHT" = some (some (.int (14) t_WEIGHT)))
    (c_STEADY : PySem.W.nsIn K mainGlobals "STEADY" = some (some (.int (15) t_STEADY)))
    (c_NUMBERS : PySem.W.nsIn K mainGlobals "NUMBERS" = some (some (.ref a_NUMBERS))) (l_NUMBERS : K.lookup a_NUMBERS = some ⟨.type "tuple", od_NUMBERS, .seq #[.int (1) t_NUMBERS_0, .int (0) t_NUMBERS_1, .int (1) t_NUMBERS_2, .int (1) t_NUMBERS_3, .int (3) t_NUMBERS_4, .int (0) t_NUMBERS_5, .int (0) t_NUMBERS_6, .int (2) t_NUMBERS_7, .int (1) t_NUMBERS_8, .int (4) t_NUMBERS_9, .int (0) t_NUMBERS_10, .int (0) t_NUMBERS_11, .int (0) t_NUMBERS_12, .int (0) t_NUMBERS_13, .int (1) t_NUMBERS_14, .int (0) t_NUMBERS_15, .int (0) t_NUMBERS_16] n_NUMBERS, sl_NUMBERS⟩)
    (c_WITH_ROW : PySem.W.nsIn K mainGlobals "WITH_ROW" = some (some (.ref a_WITH_ROW))) (l_WITH_ROW : K.lookup a_WITH_ROW = some ⟨.type "tuple", od_WITH_ROW, .seq #[.int (1) t_WITH_ROW_0, .int (14) t_WITH_ROW_1, .int (15) t_WITH_ROW_2, .int (16) t_WITH_ROW_3] n_WITH_ROW, sl_WITH_ROW⟩)
    (z_len : PySem.W.nsIn K mainGlobals "len" = some none)
    (z_abs : PySem.W.nsIn K mainGlobals "abs" = some none)
    (z_range : PySem.W.nsIn K mainGlobals "range" = some none)
    (z_max : PySem.W.nsIn K mainGlobals "max" = some none)
    (z_list : PySem.W.nsIn K mainGlobals "list" = some none)
    (z_tuple : PySem.W.nsIn K mainGlobals "tuple" = some none)
    (aC : PySem.W.nsIn K mainGlobals "Vessel" = some (some (.ref C))) (pg : PySem.W.plainGet K C Str.empty = true) (hd : PySem.W.hasDictIn K C = true) (po : PySem.W.plainOver K C = true) (sa : PySem.W.findIn K (.ref C) "__setattr__" = some (some (.builtin "object.__setattr__"))) (mk : PySem.W.makesIn K C = true) (kc : PySem.W.keepIn K (.ref C) = true) (nS : PySem.W.findIn K (.ref C) "substances" = some none) (nR : PySem.W.findIn K (.ref C) "rules" = some none) :
    ∃ T : Tx K mg, ∀ (s : Shared) (us : List Value), us.length = (["calls"] : List Str).length → BindsTo s T.dAnswers ⟨us, []⟩ ((["calls"] : List Str).zip us) := by
  have F1 := fun_mk (st := sCommon) l1 c1 k1
  have b1 := F1.binds (ps := ["a", "b"]) fun _ _ _ _ _ _ us hl => match us, hl with | [_, _], _ => rfl
  have F2 := fun_mk (st := sLowest) l2 c2 k2
  have b2 := F2.binds (ps := ["top", "bottom"]) fun _ _ _ _ _ _ us hl => match us, hl with | [_, _], _ => rfl
  have F3 := fun_mk (st := sPlus) l3 c3 k3
  have b3 := F3.binds (ps := ["p", "q"]) fun _ _ _ _ _ _ us hl => match us, hl with | [_, _], _ => rfl
  have F4 := fun_mk (st := sMinus) l4 c4 k4
  have b4 := F4.binds (ps := ["p", "q"]) fun _ _ _ _ _ _ us hl => match us, hl with | [_, _], _ => rfl
  have F5 := fun_mk (st := sTimes) l5 c5 k5
  have b5 := F5.binds (ps := ["p", "q"]) fun _ _ _ _ _ _ us hl => match us, hl with | [_, _], _ => rfl
  have F6 := fun_mk (st := sOver) l6 c6 k6
  have b6 := F6.binds (ps := ["p", "q"]) fun _ _ _ _ _ _ us hl => match us, hl with | [_, _], _ => rfl
  have F7 := fun_mk (st := sPower) l7 c7 k7
  have b7 := F7.binds (ps := ["p", "e"]) fun _ _ _ _ _ _ us hl => match us, hl with | [_, _], _ => rfl
  have F8 := fun_mk (st := sFirstWith) l8 c8 k8
  have b8 := F8.binds (ps := ["rows", "column"]) fun _ _ _ _ _ _ us hl => match us, hl with | [_, _], _ => rfl
  have F9 := fun_mk (st := sLed) l9 c9 k9
  have b9 := F9.binds (ps := ["row", "column"]) fun _ _ _ _ _ _ us hl => match us, hl with | [_, _], _ => rfl
  have F10 := fun_mk (st := sCleared) l10 c10 k10
  have b10 := F10.binds (ps := ["row", "lead", "column"]) fun _ _ _ _ _ _ us hl => match us, hl with | [_, _, _], _ => rfl
  have F11 := fun_mk (st := sRelationsAmong) l11 c11 k11
  have b11 := F11.binds (ps := ["rows", "width"]) fun _ _ _ _ _ _ us hl => match us, hl with | [_, _], _ => rfl
  have F12 := fun_mk (st := sLeadColumn) l12 c12 k12
  have b12 := F12.binds (ps := ["relation"]) fun _ _ _ _ _ _ us hl => match us, hl with | [_], _ => rfl
  have F13 := fun_mk (st := sWeightsWith) l13 c13 k13
  have b13 := F13.binds (ps := ["relations", "leads", "width", "column"]) fun _ _ _ _ _ _ us hl => match us, hl with | [_, _, _, _], _ => rfl
  have F14 := fun_mk (st := sWeightsThatCouldBe) l14 c14 k14
  have b14 := F14.binds (ps := ["relations", "width"]) fun _ _ _ _ _ _ us hl => match us, hl with | [_, _], _ => rfl
  have F15 := fun_mk (st := sRatioAmong) l15 c15 k15
  have b15 := F15.binds (ps := ["choices", "i", "j"]) fun _ _ _ _ _ _ us hl => match us, hl with | [_, _, _], _ => rfl
  have F16 := fun_mk (st := sMixturesOf) l16 c16 k16
  have b16 := F16.binds (ps := ["rules"]) fun _ _ _ _ _ _ us hl => match us, hl with | [_], _ => rfl
  have F17 := fun_mk (st := sNumbersTaken) l17 c17 k17
  have b17 := F17.binds (ps := ["rules"]) fun _ _ _ _ _ _ us hl => match us, hl with | [_], _ => rfl
  have F18 := fun_mk (st := sMixturesTaken) l18 c18 k18
  have b18 := F18.binds (ps := ["rules"]) fun _ _ _ _ _ _ us hl => match us, hl with | [_], _ => rfl
  have F19 := fun_mk (st := sBrought) l19 c19 k19
  have b19 := F19.binds (ps := ["rules", "mixture", "s"]) fun _ _ _ _ _ _ us hl => match us, hl with | [_, _, _], _ => rfl
  have F20 := fun_mk (st := sRelationsOf) l20 c20 k20
  have b20 := F20.binds (ps := ["rules", "substances"]) fun _ _ _ _ _ _ us hl => match us, hl with | [_, _], _ => rfl
  have F21 := fun_mk (st := sChoicesOf) l21 c21 k21
  have b21 := F21.binds (ps := ["rules", "substances"]) fun _ _ _ _ _ _ us hl => match us, hl with | [_, _], _ => rfl
  have F22 := fun_mk (st := sRatioOf) l22 c22 k22
  have b22 := F22.binds (ps := ["rules", "substances", "i", "j"]) fun _ _ _ _ _ _ us hl => match us, hl with | [_, _, _, _], _ => rfl
  have F23 := fun_mk (st := sMoreBy) l23 c23 k23
  have b23 := F23.binds (ps := ["first", "other", "s"]) fun _ _ _ _ _ _ us hl => match us, hl with | [_, _, _], _ => rfl
  have F24 := fun_mk (st := sLevelOf) l24 c24 k24
  have b24 := F24.binds (ps := ["rules", "substances", "s"]) fun _ _ _ _ _ _ us hl => match us, hl with | [_, _, _], _ => rfl
  have F25 := fun_mk (st := sStepsForwards) l25 c25 k25
  have b25 := F25.binds (ps := ["rules"]) fun _ _ _ _ _ _ us hl => match us, hl with | [_], _ => rfl
  have F26 := fun_mk (st := sStepsBothWays) l26 c26 k26
  have b26 := F26.binds (ps := ["rules"]) fun _ _ _ _ _ _ us hl => match us, hl with | [_], _ => rfl
  have F27 := fun_mk (st := sAllComeTo) l27 c27 k27
  have b27 := F27.binds (ps := ["steps", "start"]) fun _ _ _ _ _ _ us hl => match us, hl with | [_, _], _ => rfl
  have F28 := fun_mk (st := sStays) l28 c28 k28
  have b28 := F28.binds (ps := ["rules", "mixture"]) fun _ _ _ _ _ _ us hl => match us, hl with | [_, _], _ => rfl
  have F29 := fun_mk (st := sNumbersStaying) l29 c29 k29
  have b29 := F29.binds (ps := ["rules"]) fun _ _ _ _ _ _ us hl => match us, hl with | [_], _ => rfl
  have F30 := fun_mk (st := sClassesOf) l30 c30 k30
  have b30 := F30.binds (ps := ["rules"]) fun _ _ _ _ _ _ us hl => match us, hl with | [_], _ => rfl
  have F31 := fun_mk (st := sHowManyHidden) l31 c31 k31
  have b31 := F31.binds (ps := ["rules", "substances"]) fun _ _ _ _ _ _ us hl => match us, hl with | [_, _], _ => rfl
  have F32 := fun_mk (st := sMoreOf) l32 c32 k32
  have b32 := F32.binds (ps := ["first", "other"]) fun _ _ _ _ _ _ us hl => match us, hl with | [_, _], _ => rfl
  have F33 := fun_mk (st := sPairsOf) l33 c33 k33
  have b33 := F33.binds (ps := ["rules", "substances"]) fun _ _ _ _ _ _ us hl => match us, hl with | [_, _], _ => rfl
  have F34 := fun_mk (st := sSubstancesPaired) l34 c34 k34
  have b34 := F34.binds (ps := ["rules", "substances"]) fun _ _ _ _ _ _ us hl => match us, hl with | [_, _], _ => rfl
  have F35 := fun_mk (st := sMakesPoint) l35 c35 k35
  have b35 := F35.binds (ps := ["row", "substances"]) fun _ _ _ _ _ _ us hl => match us, hl with | [_, _], _ => rfl
  have F36 := fun_mk (st := sAmountsAt) l36 c36 k36
  have b36 := F36.binds (ps := ["row"]) fun _ _ _ _ _ _ us hl => match us, hl with | [_], _ => rfl
  have F37 := fun_mk (st := sWeightOf) l37 c37 k37
  have b37 := F37.binds (ps := ["mixture", "amounts"]) fun _ _ _ _ _ _ us hl => match us, hl with | [_, _], _ => rfl
  have F38 := fun_mk (st := sChangeOf) l38 c38 k38
  have b38 := F38.binds (ps := ["rules", "amounts", "s"]) fun _ _ _ _ _ _ us hl => match us, hl with | [_, _, _], _ => rfl
  have F39 := fun_mk (st := sIsSteady) l39 c39 k39
  have b39 := F39.binds (ps := ["rules", "amounts"]) fun _ _ _ _ _ _ us hl => match us, hl with | [_, _], _ => rfl
  have F40 := fun_mk (st := sIsMet) l40 c40 k40
  have b40 := F40.binds (ps := ["rules", "amounts"]) fun _ _ _ _ _ _ us hl => match us, hl with | [_, _], _ => rfl
  have F41 := fun_mk (st := sMakesRule) l41 c41 k41
  have b41 := F41.binds (ps := ["row", "substances"]) fun _ _ _ _ _ _ us hl => match us, hl with | [_, _], _ => rfl
  have F42 := fun_mk (st := sMakesSpeed) l42 c42 k42
  have b42 := F42.binds (ps := ["a", "b"]) fun _ _ _ _ _ _ us hl => match us, hl with | [_, _], _ => rfl
  have F43 := fun_mk (st := sRulesAt) l43 c43 k43
  have b43 := F43.binds (ps := ["rules", "j", "speed"]) fun _ _ _ _ _ _ us hl => match us, hl with | [_, _, _], _ => rfl
  have F44 := fun_mk (st := sLevelTold) l44 c44 k44
  have b44 := F44.binds (ps := ["rules", "substances", "s"]) fun _ _ _ _ _ _ us hl => match us, hl with | [_, _, _], _ => rfl
  have F45 := fun_mk (st := sVesselInit) l45 c45 k45
  have b45 := F45.binds (ps := ["self"]) fun _ _ _ _ _ _ us hl => match us, hl with | [_], _ => rfl
  have F46 := fun_mk (st := sVesselHasBegun) l46 c46 k46
  have b46 := F46.binds (ps := ["self"]) fun _ _ _ _ _ _ us hl => match us, hl with | [_], _ => rfl
  have F47 := fun_mk (st := sVesselHasRule) l47 c47 k47
  have b47 := F47.binds (ps := ["self", "left", "right"]) fun _ _ _ _ _ _ us hl => match us, hl with | [_, _, _], _ => rfl
  have F48 := fun_mk (st := sVesselBegin) l48 c48 k48
  have b48 := F48.binds (ps := ["self", "n"]) fun _ _ _ _ _ _ us hl => match us, hl with | [_, _], _ => rfl
  have F49 := fun_mk (st := sVesselRule) l49 c49 k49
  have b49 := F49.binds (ps := ["self", "row"]) fun _ _ _ _ _ _ us hl => match us, hl with | [_, _], _ => rfl
  have F50 := fun_mk (st := sVesselUnrule) l50 c50 k50
  have b50 := F50.binds (ps := ["self", "j"]) fun _ _ _ _ _ _ us hl => match us, hl with | [_, _], _ => rfl
  have F51 := fun_mk (st := sVesselRuleis) l51 c51 k51
  have b51 := F51.binds (ps := ["self", "j"]) fun _ _ _ _ _ _ us hl => match us, hl with | [_, _], _ => rfl
  have F52 := fun_mk (st := sVesselSpeed) l52 c52 k52
  have b52 := F52.binds (ps := ["self", "j", "a", "b"]) fun _ _ _ _ _ _ us hl => match us, hl with | [_, _, _, _], _ => rfl
  have F53 := fun_mk (st := sVesselLefts) l53 c53 k53
  have b53 := F53.binds (ps := ["self"]) fun _ _ _ _ _ _ us hl => match us, hl with | [_], _ => rfl
  have F54 := fun_mk (st := sVesselRelations) l54 c54 k54
  have b54 := F54.binds (ps := ["self"]) fun _ _ _ _ _ _ us hl => match us, hl with | [_], _ => rfl
  have F55 := fun_mk (st := sVesselRatio) l55 c55 k55
  have b55 := F55.binds (ps := ["self", "i", "j"]) fun _ _ _ _ _ _ us hl => match us, hl with | [_, _, _], _ => rfl
  have F56 := fun_mk (st := sVesselLevel) l56 c56 k56
  have b56 := F56.binds (ps := ["self", "s"]) fun _ _ _ _ _ _ us hl => match us, hl with | [_, _], _ => rfl
  have F57 := fun_mk (st := sVesselIfspeed) l57 c57 k57
  have b57 := F57.binds (ps := ["self", "j", "a", "b", "s"]) fun _ _ _ _ _ _ us hl => match us, hl with | [_, _, _, _, _], _ => rfl
  have F58 := fun_mk (st := sVesselPairs) l58 c58 k58
  have b58 := F58.binds (ps := ["self"]) fun _ _ _ _ _ _ us hl => match us, hl with | [_], _ => rfl
  have F59 := fun_mk (st := sVesselSame) l59 c59 k59
  have b59 := F59.binds (ps := ["self"]) fun _ _ _ _ _ _ us hl => match us, hl with | [_], _ => rfl
  have F60 := fun_mk (st := sVesselEnds) l60 c60 k60
  have b60 := F60.binds (ps := ["self"]) fun _ _ _ _ _ _ us hl => match us, hl with | [_], _ => rfl
  have F61 := fun_mk (st := sVesselHides) l61 c61 k61
  have b61 := F61.binds (ps := ["self"]) fun _ _ _ _ _ _ us hl => match us, hl with | [_], _ => rfl
  have F62 := fun_mk (st := sVesselWeight) l62 c62 k62
  have b62 := F62.binds (ps := ["self", "i", "row"]) fun _ _ _ _ _ _ us hl => match us, hl with | [_, _, _], _ => rfl
  have F63 := fun_mk (st := sVesselSteady) l63 c63 k63
  have b63 := F63.binds (ps := ["self", "row"]) fun _ _ _ _ _ _ us hl => match us, hl with | [_, _], _ => rfl
  have F64 := fun_mk (st := sVesselMet) l64 c64 k64
  have b64 := F64.binds (ps := ["self", "row"]) fun _ _ _ _ _ _ us hl => match us, hl with | [_, _], _ => rfl
  have F65 := fun_mk (st := sNumbersAt) l65 c65 k65
  have b65 := F65.binds (ps := ["calls", "place"]) fun _ _ _ _ _ _ us hl => match us, hl with | [_, _], _ => rfl
  have F66 := fun_mk (st := sRowAt) l66 c66 k66
  have b66 := F66.binds (ps := ["calls", "place"]) fun _ _ _ _ _ _ us hl => match us, hl with | [_, _], _ => rfl
  have F67 := fun_mk (st := sPlaceBehind) l67 c67 k67
  have b67 := F67.binds (ps := ["calls", "place"]) fun _ _ _ _ _ _ us hl => match us, hl with | [_, _], _ => rfl
  have F68 := fun_mk (st := sAnswerOnRules) l68 c68 k68
  have b68 := F68.binds (ps := ["vessel", "call", "numbers", "row"]) fun _ _ _ _ _ _ us hl => match us, hl with | [_, _, _, _], _ => rfl
  have F69 := fun_mk (st := sAnswerBySums) l69 c69 k69
  have b69 := F69.binds (ps := ["vessel", "call", "numbers"]) fun _ _ _ _ _ _ us hl => match us, hl with | [_, _, _], _ => rfl
  have F70 := fun_mk (st := sAnswerByKnot) l70 c70 k70
  have b70 := F70.binds (ps := ["vessel", "call"]) fun _ _ _ _ _ _ us hl => match us, hl with | [_, _], _ => rfl
  have F71 := fun_mk (st := sAnswerAtPoint) l71 c71 k71
  have b71 := F71.binds (ps := ["vessel", "call", "numbers", "row"]) fun _ _ _ _ _ _ us hl => match us, hl with | [_, _, _, _], _ => rfl
  have F72 := fun_mk (st := sAnswer) l72 c72 k72
  have b72 := F72.binds (ps := ["vessel", "call", "numbers", "row"]) fun _ _ _ _ _ _ us hl => match us, hl with | [_, _, _, _], _ => rfl
  have F73 := fun_mk (st := sAnswers) l73 c73 k73
  have b73 := F73.binds (ps := ["calls"]) fun _ _ _ _ _ _ us hl => match us, hl with | [_], _ => rfl
  exact ⟨{
    C := C,
    fCommon := f1,
    dCommon := _,
    oCommon := ⟨F1, b1, PySem.W.mg_of X G a1⟩,
    fLowest := f2,
    dLowest := _,
    oLowest := ⟨F2, b2, PySem.W.mg_of X G a2⟩,
    fPlus := f3,
    dPlus := _,
    oPlus := ⟨F3, b3, PySem.W.mg_of X G a3⟩,
    fMinus := f4,
    dMinus := _,
    oMinus := ⟨F4, b4, PySem.W.mg_of X G a4⟩,
    fTimes := f5,
    dTimes := _,
    oTimes := ⟨F5, b5, PySem.W.mg_of X G a5⟩,
    fOver := f6,
    dOver := _,
    oOver := ⟨F6, b6, PySem.W.mg_of X G a6⟩,
    fPower := f7,
    dPower := _,
    oPower := ⟨F7, b7, PySem.W.mg_of X G a7⟩,
    fFirstWith := f8,
    dFirstWith := _,
    oFirstWith := ⟨F8, b8, PySem.W.mg_of X G a8⟩,
    fLed := f9,
    dLed := _,
    oLed := ⟨F9, b9, PySem.W.mg_of X G a9⟩,
    fCleared := f10,
    dCleared := _,
    oCleared := ⟨F10, b10, PySem.W.mg_of X G a10⟩,
    fRelationsAmong := f11,
    dRelationsAmong := _,
    oRelationsAmong := ⟨F11, b11, PySem.W.mg_of X G a11⟩,
    fLeadColumn := f12,
    dLeadColumn := _,
    oLeadColumn := ⟨F12, b12, PySem.W.mg_of X G a12⟩,
    fWeightsWith := f13,
    dWeightsWith := _,
    oWeightsWith := ⟨F13, b13, PySem.W.mg_of X G a13⟩,
    fWeightsThatCouldBe := f14,
    dWeightsThatCouldBe := _,
    oWeightsThatCouldBe := ⟨F14, b14, PySem.W.mg_of X G a14⟩,
    fRatioAmong := f15,
    dRatioAmong := _,
    oRatioAmong := ⟨F15, b15, PySem.W.mg_of X G a15⟩,
    fMixturesOf := f16,
    dMixturesOf := _,
    oMixturesOf := ⟨F16, b16, PySem.W.mg_of X G a16⟩,
    fNumbersTaken := f17,
    dNumbersTaken := _,
    oNumbersTaken := ⟨F17, b17, PySem.W.mg_of X G a17⟩,
    fMixturesTaken := f18,
    dMixturesTaken := _,
    oMixturesTaken := ⟨F18, b18, PySem.W.mg_of X G a18⟩,
    fBrought := f19,
    dBrought := _,
    oBrought := ⟨F19, b19, PySem.W.mg_of X G a19⟩,
    fRelationsOf := f20,
    dRelationsOf := _,
    oRelationsOf := ⟨F20, b20, PySem.W.mg_of X G a20⟩,
    fChoicesOf := f21,
    dChoicesOf := _,
    oChoicesOf := ⟨F21, b21, PySem.W.mg_of X G a21⟩,
    fRatioOf := f22,
    dRatioOf := _,
    oRatioOf := ⟨F22, b22, PySem.W.mg_of X G a22⟩,
    fMoreBy := f23,
    dMoreBy := _,
    oMoreBy := ⟨F23, b23, PySem.W.mg_of X G a23⟩,
    fLevelOf := f24,
    dLevelOf := _,
    oLevelOf := ⟨F24, b24, PySem.W.mg_of X G a24⟩,
    fStepsForwards := f25,
    dStepsForwards := _,
    oStepsForwards := ⟨F25, b25, PySem.W.mg_of X G a25⟩,
    fStepsBothWays := f26,
    dStepsBothWays := _,
    oStepsBothWays := ⟨F26, b26, PySem.W.mg_of X G a26⟩,
    fAllComeTo := f27,
    dAllComeTo := _,
    oAllComeTo := ⟨F27, b27, PySem.W.mg_of X G a27⟩,
    fStays := f28,
    dStays := _,
    oStays := ⟨F28, b28, PySem.W.mg_of X G a28⟩,
    fNumbersStaying := f29,
    dNumbersStaying := _,
    oNumbersStaying := ⟨F29, b29, PySem.W.mg_of X G a29⟩,
    fClassesOf := f30,
    dClassesOf := _,
    oClassesOf := ⟨F30, b30, PySem.W.mg_of X G a30⟩,
    fHowManyHidden := f31,
    dHowManyHidden := _,
    oHowManyHidden := ⟨F31, b31, PySem.W.mg_of X G a31⟩,
    fMoreOf := f32,
    dMoreOf := _,
    oMoreOf := ⟨F32, b32, PySem.W.mg_of X G a32⟩,
    fPairsOf := f33,
    dPairsOf := _,
    oPairsOf := ⟨F33, b33, PySem.W.mg_of X G a33⟩,
    fSubstancesPaired := f34,
    dSubstancesPaired := _,
    oSubstancesPaired := ⟨F34, b34, PySem.W.mg_of X G a34⟩,
    fMakesPoint := f35,
    dMakesPoint := _,
    oMakesPoint := ⟨F35, b35, PySem.W.mg_of X G a35⟩,
    fAmountsAt := f36,
    dAmountsAt := _,
    oAmountsAt := ⟨F36, b36, PySem.W.mg_of X G a36⟩,
    fWeightOf := f37,
    dWeightOf := _,
    oWeightOf := ⟨F37, b37, PySem.W.mg_of X G a37⟩,
    fChangeOf := f38,
    dChangeOf := _,
    oChangeOf := ⟨F38, b38, PySem.W.mg_of X G a38⟩,
    fIsSteady := f39,
    dIsSteady := _,
    oIsSteady := ⟨F39, b39, PySem.W.mg_of X G a39⟩,
    fIsMet := f40,
    dIsMet := _,
    oIsMet := ⟨F40, b40, PySem.W.mg_of X G a40⟩,
    fMakesRule := f41,
    dMakesRule := _,
    oMakesRule := ⟨F41, b41, PySem.W.mg_of X G a41⟩,
    fMakesSpeed := f42,
    dMakesSpeed := _,
    oMakesSpeed := ⟨F42, b42, PySem.W.mg_of X G a42⟩,
    fRulesAt := f43,
    dRulesAt := _,
    oRulesAt := ⟨F43, b43, PySem.W.mg_of X G a43⟩,
    fLevelTold := f44,
    dLevelTold := _,
    oLevelTold := ⟨F44, b44, PySem.W.mg_of X G a44⟩,
    fVesselInit := f45,
    dVesselInit := _,
    oVesselInit := ⟨F45, b45⟩,
    fVesselHasBegun := f46,
    dVesselHasBegun := _,
    oVesselHasBegun := ⟨F46, b46⟩,
    mVesselHasBegun := ⟨a46, i46, k46⟩,
    fVesselHasRule := f47,
    dVesselHasRule := _,
    oVesselHasRule := ⟨F47, b47⟩,
    mVesselHasRule := ⟨a47, i47, k47⟩,
    fVesselBegin := f48,
    dVesselBegin := _,
    oVesselBegin := ⟨F48, b48⟩,
    mVesselBegin := ⟨a48, i48, k48⟩,
    fVesselRule := f49,
    dVesselRule := _,
    oVesselRule := ⟨F49, b49⟩,
    mVesselRule := ⟨a49, i49, k49⟩,
    fVesselUnrule := f50,
    dVesselUnrule := _,
    oVesselUnrule := ⟨F50, b50⟩,
    mVesselUnrule := ⟨a50, i50, k50⟩,
    fVesselRuleis := f51,
    dVesselRuleis := _,
    oVesselRuleis := ⟨F51, b51⟩,
    mVesselRuleis := ⟨a51, i51, k51⟩,
    fVesselSpeed := f52,
    dVesselSpeed := _,
    oVesselSpeed := ⟨F52, b52⟩,
    mVesselSpeed := ⟨a52, i52, k52⟩,
    fVesselLefts := f53,
    dVesselLefts := _,
    oVesselLefts := ⟨F53, b53⟩,
    mVesselLefts := ⟨a53, i53, k53⟩,
    fVesselRelations := f54,
    dVesselRelations := _,
    oVesselRelations := ⟨F54, b54⟩,
    mVesselRelations := ⟨a54, i54, k54⟩,
    fVesselRatio := f55,
    dVesselRatio := _,
    oVesselRatio := ⟨F55, b55⟩,
    mVesselRatio := ⟨a55, i55, k55⟩,
    fVesselLevel := f56,
    dVesselLevel := _,
    oVesselLevel := ⟨F56, b56⟩,
    mVesselLevel := ⟨a56, i56, k56⟩,
    fVesselIfspeed := f57,
    dVesselIfspeed := _,
    oVesselIfspeed := ⟨F57, b57⟩,
    mVesselIfspeed := ⟨a57, i57, k57⟩,
    fVesselPairs := f58,
    dVesselPairs := _,
    oVesselPairs := ⟨F58, b58⟩,
    mVesselPairs := ⟨a58, i58, k58⟩,
    fVesselSame := f59,
    dVesselSame := _,
    oVesselSame := ⟨F59, b59⟩,
    mVesselSame := ⟨a59, i59, k59⟩,
    fVesselEnds := f60,
    dVesselEnds := _,
    oVesselEnds := ⟨F60, b60⟩,
    mVesselEnds := ⟨a60, i60, k60⟩,
    fVesselHides := f61,
    dVesselHides := _,
    oVesselHides := ⟨F61, b61⟩,
    mVesselHides := ⟨a61, i61, k61⟩,
    fVesselWeight := f62,
    dVesselWeight := _,
    oVesselWeight := ⟨F62, b62⟩,
    mVesselWeight := ⟨a62, i62, k62⟩,
    fVesselSteady := f63,
    dVesselSteady := _,
    oVesselSteady := ⟨F63, b63⟩,
    mVesselSteady := ⟨a63, i63, k63⟩,
    fVesselMet := f64,
    dVesselMet := _,
    oVesselMet := ⟨F64, b64⟩,
    mVesselMet := ⟨a64, i64, k64⟩,
    fNumbersAt := f65,
    dNumbersAt := _,
    oNumbersAt := ⟨F65, b65, PySem.W.mg_of X G a65⟩,
    fRowAt := f66,
    dRowAt := _,
    oRowAt := ⟨F66, b66, PySem.W.mg_of X G a66⟩,
    fPlaceBehind := f67,
    dPlaceBehind := _,
    oPlaceBehind := ⟨F67, b67, PySem.W.mg_of X G a67⟩,
    fAnswerOnRules := f68,
    dAnswerOnRules := _,
    oAnswerOnRules := ⟨F68, b68, PySem.W.mg_of X G a68⟩,
    fAnswerBySums := f69,
    dAnswerBySums := _,
    oAnswerBySums := ⟨F69, b69, PySem.W.mg_of X G a69⟩,
    fAnswerByKnot := f70,
    dAnswerByKnot := _,
    oAnswerByKnot := ⟨F70, b70, PySem.W.mg_of X G a70⟩,
    fAnswerAtPoint := f71,
    dAnswerAtPoint := _,
    oAnswerAtPoint := ⟨F71, b71, PySem.W.mg_of X G a71⟩,
    fAnswer := f72,
    dAnswer := _,
    oAnswer := ⟨F72, b72, PySem.W.mg_of X G a72⟩,
    fAnswers := f73,
    dAnswers := _,
    oAnswers := ⟨F73, b73, PySem.W.mg_of X G a73⟩,
    aZERO := a_ZERO,
    gZERO := PySem.W.mg_of X G c_ZERO,
    kZERO := fun H => .inr ⟨_, _, _, l_ZERO, rfl, rfl, (by show 2 ≤ sizeLine; decide), (.cons ⟨_, rfl⟩ (.cons ⟨_, rfl⟩ .nil))⟩,
    aONE := a_ONE,
    gONE := PySem.W.mg_of X G c_ONE,
    kONE := fun H => .inr ⟨_, _, _, l_ONE, rfl, rfl, (by show 2 ≤ sizeLine; decide), (.cons ⟨_, rfl⟩ (.cons ⟨_, rfl⟩ .nil))⟩,
    cMOST_DIVISOR := ⟨_, PySem.W.mg_of X G c_MOST_DIVISOR⟩,
    cMOST_NUMBER := ⟨_, PySem.W.mg_of X G c_MOST_NUMBER⟩,
    cNO_SUCH := ⟨_, PySem.W.mg_of X G c_NO_SUCH⟩,
    cNOT_BEGUN := ⟨_, PySem.W.mg_of X G c_NOT_BEGUN⟩,
    cRULE_IS_THERE := ⟨_, PySem.W.mg_of X G c_RULE_IS_THERE⟩,
    cWRONG := ⟨_, PySem.W.mg_of X G c_WRONG⟩,
    cTOO_MANY_RULES := ⟨_, PySem.W.mg_of X G c_TOO_MANY_RULES⟩,
    cNOT_TOLD := ⟨_, PySem.W.mg_of X G c_NOT_TOLD⟩,
    cMOST_SUBSTANCES := ⟨_, PySem.W.mg_of X G c_MOST_SUBSTANCES⟩,
    cMOST_OF_ONE := ⟨_, PySem.W.mg_of X G c_MOST_OF_ONE⟩,
    cMOST_RULES := ⟨_, PySem.W.mg_of X G c_MOST_RULES⟩,
    cMOST_IN_SPEED := ⟨_, PySem.W.mg_of X G c_MOST_IN_SPEED⟩,
    cBEGIN := ⟨_, PySem.W.mg_of X G c_BEGIN⟩,
    cRULE := ⟨_, PySem.W.mg_of X G c_RULE⟩,
    cUNRULE := ⟨_, PySem.W.mg_of X G c_UNRULE⟩,
    cRULEIS := ⟨_, PySem.W.mg_of X G c_RULEIS⟩,
    cSPEED := ⟨_, PySem.W.mg_of X G c_SPEED⟩,
    cLEFTS := ⟨_, PySem.W.mg_of X G c_LEFTS⟩,
    cRELATIONS := ⟨_, PySem.W.mg_of X G c_RELATIONS⟩,
    cRATIO := ⟨_, PySem.W.mg_of X G c_RATIO⟩,
    cLEVEL := ⟨_, PySem.W.mg_of X G c_LEVEL⟩,
    cIFSPEED := ⟨_, PySem.W.mg_of X G c_IFSPEED⟩,
    cPAIRS := ⟨_, PySem.W.mg_of X G c_PAIRS⟩,
    cSAME := ⟨_, PySem.W.mg_of X G c_SAME⟩,
    cENDS := ⟨_, PySem.W.mg_of X G c_ENDS⟩,
    cHIDES := ⟨_, PySem.W.mg_of X G c_HIDES⟩,
    cWEIGHT := ⟨_, PySem.W.mg_of X G c_WEIGHT⟩,
    cSTEADY := ⟨_, PySem.W.mg_of X G c_STEADY⟩,
    aNUMBERS := a_NUMBERS,
    gNUMBERS := PySem.W.mg_of X G c_NUMBERS,
    kNUMBERS := fun H => .inr ⟨_, _, _, l_NUMBERS, rfl, rfl, (by show 17 ≤ sizeLine; decide), (.cons ⟨_, rfl⟩ (.cons ⟨_, rfl⟩ (.cons ⟨_, rfl⟩ (.cons ⟨_, rfl⟩ (.cons ⟨_, rfl⟩ (.cons ⟨_, rfl⟩ (.cons ⟨_, rfl⟩ (.cons ⟨_, rfl⟩ (.cons ⟨_, rfl⟩ (.cons ⟨_, rfl⟩ (.cons ⟨_, rfl⟩ (.cons ⟨_, rfl⟩ (.cons ⟨_, rfl⟩ (.cons ⟨_, rfl⟩ (.cons ⟨_, rfl⟩ (.cons ⟨_, rfl⟩ (.cons ⟨_, rfl⟩ .nil)))))))))))))))))⟩,
    aWITH_ROW := a_WITH_ROW,
    gWITH_ROW := PySem.W.mg_of X G c_WITH_ROW,
    kWITH_ROW := fun H => .inr ⟨_, _, _, l_WITH_ROW, rfl, rfl, (by show 4 ≤ sizeLine; decide), (.cons ⟨_, rfl⟩ (.cons ⟨_, rfl⟩ (.cons ⟨_, rfl⟩ (.cons ⟨_, rfl⟩ .nil))))⟩,
    len := PySem.W.mg_none_of X G z_len,
    abs := PySem.W.mg_none_of X G z_abs,
    range := PySem.W.mg_none_of X G z_range,
    max := PySem.W.mg_none_of X G z_max,
    list := PySem.W.mg_none_of X G z_list,
    tuple := PySem.W.mg_none_of X G z_tuple,
    cl := ⟨pg, hd, po, sa⟩,
    nS := nS,
    nR := nR,
    gC := PySem.W.mg_of X G aC,
    mkC := ⟨mk, a45, i45, kc⟩ }, fun s us hu => match us, hu with | [_], _ => .of_eq rfl⟩
end Sl

namespace Sl
open PySem PySem.Spec PyProof.Rows L2
theorem fin_mk {P : Program} {w : World} {K : PySem.W.Frag} {mg : Str → Option Value} {fa : Addr} (hfa : mg "answers" = some (.ref fa)) (h : ∃ T : Tx K mg, ∀ (s : Shared) (us : List Value), us.length = (["calls"] : List Str).length → BindsTo s T.dAnswers ⟨us, []⟩ ((["calls"] : List Str).zip us)) :
    ∃ fd : FuncData, (∀ (s : Shared) (us : List Value), us.length = (["calls"] : List Str).length → BindsTo s fd ⟨us, []⟩ ((["calls"] : List Str).zip us)) ∧ ∀ base : Heap, K.In base → base.Ns mainGlobals mg → FnOk P w K mg base CX0 13 fa fd ["calls"] (spAns K) := by
  obtain ⟨T, hb⟩ := h
  have e := hfa.symm.trans T.oAnswers.g
  have e2 : fa = T.fAnswers := by
    injection e with e
    injection e
  subst e2
  exact ⟨T.dAnswers, hb, fun base _ _ => ok_answers T⟩
end Sl
open PySem PySem.W PyProof.Rows
set_option maxRecDepth 100000 in
set_option maxHeartbeats 0 in
theorem PySem.Challenge.cw_samelevels_s01_answers_holds : PySem.Challenge.rw_samelevels_s01_answers.Holds := by
  w_on; k_headS; (case hw => exact ⟨[.list [.int 5]], by decide +kernel, by decide +kernel⟩)
  k_fillS
  refine L2.walk_specK (r := PySem.Challenge.rw_samelevels_s01_answers) (k := 13) (CX := L2.CX0) (ps := ["calls"]) (sp := Sl.spAns) (by decide +kernel) rfl rfl ⟨rfl, by decide, by decide⟩ (fun w h Y => PySem.W.kIn_of Y) ?F ?S (fun _ _ _ _ z => z)
  case F =>
    intro w mg fa h Y KX G hmg
    refine' Sl.fin_mk hmg (Sl.tx_mk KX G ?a1 ?l1 ?c1 ?k1 ?a2 ?l2 ?c2 ?k2 ?a3 ?l3 ?c3 ?k3 ?a4 ?l4 ?c4 ?k4 ?a5 ?l5 ?c5 ?k5 ?a6 ?l6 ?c6 ?k6 ?a7 ?l7 ?c7 ?k7 ?a8 ?l8 ?c8 ?k8 ?a9 ?l9 ?c9 ?k9 ?a10 ?l10 ?c10 ?k10 ?a11 ?l11 ?c11 ?k11 ?a12 ?l12 ?c12 ?k12 ?a13 ?l13 ?c13 ?k13 ?a14 ?l14 ?c14 ?k14 ?a15 ?l15 ?c15 ?k15 ?a16 ?l16 ?c16 ?k16 ?a17 ?l17 ?c17 ?k17 ?a18 ?l18 ?c18 ?k18 ?a19 ?l19 ?c19 ?k19 ?a20 ?l20 ?c20 ?k20 ?a21 ?l21 ?c21 ?k21 ?a22 ?l22 ?c22 ?k22 ?a23 ?l23 ?c23 ?k23 ?a24 ?l24 ?c24 ?k24 ?a25 ?l25 ?c25 ?k25 ?a26 ?l26 ?c26 ?k26 ?a27 ?l27 ?c27 ?k27 ?a28 ?l28 ?c28 ?k28 ?a29 ?l29 ?c29 ?k29 ?a30 ?l30 ?c30 ?k30 ?a31 ?l31 ?c31 ?k31 ?a32 ?l32 ?c32 ?k32 ?a33 ?l33 ?c33 ?k33 ?a34 ?l34 ?c34 ?k34 ?a35 ?l35 ?c35 ?k35 ?a36 ?l36 ?c36 ?k36 ?a37 ?l37 ?c37 ?k37 ?a38 ?l38 ?c38 ?k38 ?a39 ?l39 ?c39 ?k39 ?a40 ?l40 ?c40 ?k40 ?a41 ?l41 ?c41 ?k41 ?a42 ?l42 ?c42 ?k42 ?a43 ?l43 ?c43 ?k43 ?a44 ?l44 ?c44 ?k44 ?a45 ?i45 ?l45 ?c45 ?k45 ?a46 ?i46 ?l46 ?c46 ?k46 ?a47 ?i47 ?l47 ?c47 ?k47 ?a48 ?i48 ?l48 ?c48 ?k48 ?a49 ?i49 ?l49 ?c49 ?k49 ?a50 ?i50 ?l50 ?c50 ?k50 ?a51 ?i51 ?l51 ?c51 ?k51 ?a52 ?i52 ?l52 ?c52 ?k52 ?a53 ?i53 ?l53 ?c53 ?k53 ?a54 ?i54 ?l54 ?c54 ?k54 ?a55 ?i55 ?l55 ?c55 ?k55 ?a56 ?i56 ?l56 ?c56 ?k56 ?a57 ?i57 ?l57 ?c57 ?k57 ?a58 ?i58 ?l58 ?c58 ?k58 ?a59 ?i59 ?l59 ?c59 ?k59 ?a60 ?i60 ?l60 ?c60 ?k60 ?a61 ?i61 ?l61 ?c61 ?k61 ?a62 ?i62 ?l62 ?c62 ?k62 ?a63 ?i63 ?l63 ?c63 ?k63 ?a64 ?i64 ?l64 ?c64 ?k64 ?a65 ?l65 ?c65 ?k65 ?a66 ?l66 ?c66 ?k66 ?a67 ?l67 ?c67 ?k67 ?a68 ?l68 ?c68 ?k68 ?a69 ?l69 ?c69 ?k69 ?a70 ?l70 ?c70 ?k70 ?a71 ?l71 ?c71 ?k71 ?a72 ?l72 ?c72 ?k72 ?a73 ?l73 ?c73 ?k73 ?c_ZERO ?l_ZERO ?c_ONE ?l_ONE ?c_MOST_DIVISOR ?c_MOST_NUMBER ?c_NO_SUCH ?c_NOT_BEGUN ?c_RULE_IS_THERE ?c_WRONG ?c_TOO_MANY_RULES ?c_NOT_TOLD ?c_MOST_SUBSTANCES ?c_MOST_OF_ONE ?c_MOST_RULES ?c_MOST_IN_SPEED ?c_BEGIN ?c_RULE ?c_UNRULE ?c_RULEIS ?c_SPEED ?c_LEFTS ?c_RELATIONS ?c_RATIO ?c_LEVEL ?c_IFSPEED ?c_PAIRS ?c_SAME ?c_ENDS ?c_HIDES ?c_WEIGHT ?c_STEADY ?c_NUMBERS ?l_NUMBERS ?c_WITH_ROW ?l_WITH_ROW ?z_len ?z_abs ?z_range ?z_max ?z_list ?z_tuple ?aC ?pg ?hd ?po ?sa ?mk ?kc ?nS ?nR)
    (case aC => k_is)
    (case a1 => k_is)
    (case l1 => k_is)
    (case c1 => k_is)
    (case k1 => k_is)
    (case a2 => k_is)
    (case l2 => k_is)
    (case c2 => k_is)
    (case k2 => k_is)
    (case a3 => k_is)
    (case l3 => k_is)
    (case c3 => k_is)
    (case k3 => k_is)
    (case a4 => k_is)
    (case l4 => k_is)
    (case c4 => k_is)
    (case k4 => k_is)
    (case a5 => k_is)
    (case l5 => k_is)
    (case c5 => k_is)
    (case k5 => k_is)
    (case a6 => k_is)
    (case l6 => k_is)
    (case c6 => k_is)
    (case k6 => k_is)
    (case a7 => k_is)
    (case l7 => k_is)
    (case c7 => k_is)
    (case k7 => k_is)
    (case a8 => k_is)
    (case l8 => k_is)
    (case c8 => k_is)
    (case k8 => k_is)
    (case a9 => k_is)
    (case l9 => k_is)
    (case c9 => k_is)
    (case k9 => k_is)
    (case a10 => k_is)
    (case l10 => k_is)
    (case c10 => k_is)
    (case k10 => k_is)
    (case a11 => k_is)
    (case l11 => k_is)
    (case c11 => k_is)
    (case k11 => k_is)
    (case a12 => k_is)
    (case l12 => k_is)
    (case c12 => k_is)
    (case k12 => k_is)
    (case a13 => k_is)
    (case l13 => k_is)
    (case c13 => k_is)
    (case k13 => k_is)
    (case a14 => k_is)
    (case l14 => k_is)
    (case c14 => k_is)
    (case k14 => k_is)
    (case a15 => k_is)
    (case l15 => k_is)
    (case c15 => k_is)
    (case k15 => k_is)
    (case a16 => k_is)
    (case l16 => k_is)
    (case c16 => k_is)
    (case k16 => k_is)
    (case a17 => k_is)
    (case l17 => k_is)
    (case c17 => k_is)
    (case k17 => k_is)
    (case a18 => k_is)
    (case l18 => k_is)
    (case c18 => k_is)
    (case k18 => k_is)
    (case a19 => k_is)
    (case l19 => k_is)
    (case c19 => k_is)
    (case k19 => k_is)
    (case a20 => k_is)
    (case l20 => k_is)
    (case c20 => k_is)
    (case k20 => k_is)
    (case a21 => k_is)
    (case l21 => k_is)
    (case c21 => k_is)
    (case k21 => k_is)
    (case a22 => k_is)
    (case l22 => k_is)
    (case c22 => k_is)
    (case k22 => k_is)
    (case a23 => k_is)
    (case l23 => k_is)
    (case c23 => k_is)
    (case k23 => k_is)
    (case a24 => k_is)
    (case l24 => k_is)
    (case c24 => k_is)
    (case k24 => k_is)
    (case a25 => k_is)
    (case l25 => k_is)
    (case c25 => k_is)
    (case k25 => k_is)
    (case a26 => k_is)
    (case l26 => k_is)
    (case c26 => k_is)
    (case k26 => k_is)
    (case a27 => k_is)
    (case l27 => k_is)
    (case c27 => k_is)
    (case k27 => k_is)
    (case a28 => k_is)
    (case l28 => k_is)
    (case c28 => k_is)
    (case k28 => k_is)
    (case a29 => k_is)
    (case l29 => k_is)
    (case c29 => k_is)
    (case k29 => k_is)
    (case a30 => k_is)
    (case l30 => k_is)
    (case c30 => k_is)
    (case k30 => k_is)
    (case a31 => k_is)
    (case l31 => k_is)
    (case c31 => k_is)
    (case k31 => k_is)
    (case a32 => k_is)
    (case l32 => k_is)
    (case c32 => k_is)
    (case k32 => k_is)
    (case a33 => k_is)
    (case l33 => k_is)
    (case c33 => k_is)
    (case k33 => k_is)
    (case a34 => k_is)
    (case l34 => k_is)
    (case c34 => k_is)
    (case k34 => k_is)
    (case a35 => k_is)
    (case l35 => k_is)
    (case c35 => k_is)
    (case k35 => k_is)
    (case a36 => k_is)
    (case l36 => k_is)
    (case c36 => k_is)
    (case k36 => k_is)
    (case a37 => k_is)
    (case l37 => k_is)
    (case c37 => k_is)
    (case k37 => k_is)
    (case a38 => k_is)
    (case l38 => k_is)
    (case c38 => k_is)
    (case k38 => k_is)
    (case a39 => k_is)
    (case l39 => k_is)
    (case c39 => k_is)
    (case k39 => k_is)
    (case a40 => k_is)
    (case l40 => k_is)
    (case c40 => k_is)
    (case k40 => k_is)
    (case a41 => k_is)
    (case l41 => k_is)
    (case c41 => k_is)
    (case k41 => k_is)
    (case a42 => k_is)
    (case l42 => k_is)
    (case c42 => k_is)
    (case k42 => k_is)
    (case a43 => k_is)
    (case l43 => k_is)
    (case c43 => k_is)
    (case k43 => k_is)
    (case a44 => k_is)
    (case l44 => k_is)
    (case c44 => k_is)
    (case k44 => k_is)
    (case a45 => k_is)
    (case i45 => k_is)
    (case l45 => k_is)
    (case c45 => k_is)
    (case k45 => k_is)
    (case a46 => k_is)
    (case i46 => k_is)
    (case l46 => k_is)
    (case c46 => k_is)
    (case k46 => k_is)
    (case a47 => k_is)
    (case i47 => k_is)
    (case l47 => k_is)
    (case c47 => k_is)
    (case k47 => k_is)
    (case a48 => k_is)
    (case i48 => k_is)
    (case l48 => k_is)
    (case c48 => k_is)
    (case k48 => k_is)
    (case a49 => k_is)
    (case i49 => k_is)
    (case l49 => k_is)
    (case c49 => k_is)
    (case k49 => k_is)
    (case a50 => k_is)
    (case i50 => k_is)
    (case l50 => k_is)
    (case c50 => k_is)
    (case k50 => k_is)
    (case a51 => k_is)
    (case i51 => k_is)
    (case l51 => k_is)
    (case c51 => k_is)
    (case k51 => k_is)
    (case a52 => k_is)
    (case i52 => k_is)
    (case l52 => k_is)
    (case c52 => k_is)
    (case k52 => k_is)
    (case a53 => k_is)
    (case i53 => k_is)
    (case l53 => k_is)
    (case c53 => k_is)
    (case k53 => k_is)
    (case a54 => k_is)
    (case i54 => k_is)
    (case l54 => k_is)
    (case c54 => k_is)
    (case k54 => k_is)
    (case a55 => k_is)
    (case i55 => k_is)
    (case l55 => k_is)
    (case c55 => k_is)
    (case k55 => k_is)
    (case a56 => k_is)
    (case i56 => k_is)
    (case l56 => k_is)
    (case c56 => k_is)
    (case k56 => k_is)
    (case a57 => k_is)
    (case i57 => k_is)
    (case l57 => k_is)
    (case c57 => k_is)
    (case k57 => k_is)
    (case a58 => k_is)
    (case i58 => k_is)
    (case l58 => k_is)
    (case c58 => k_is)
    (case k58 => k_is)
    (case a59 => k_is)
    (case i59 => k_is)
    (case l59 => k_is)
    (case c59 => k_is)
    (case k59 => k_is)
    (case a60 => k_is)
    (case i60 => k_is)
    (case l60 => k_is)
    (case c60 => k_is)
    (case k60 => k_is)
    (case a61 => k_is)
    (case i61 => k_is)
    (case l61 => k_is)
    (case c61 => k_is)
    (case k61 => k_is)
    (case a62 => k_is)
    (case i62 => k_is)
    (case l62 => k_is)
    (case c62 => k_is)
    (case k62 => k_is)
    (case a63 => k_is)
    (case i63 => k_is)
    (case l63 => k_is)
    (case c63 => k_is)
    (case k63 => k_is)
    (case a64 => k_is)
    (case i64 => k_is)
    (case l64 => k_is)
    (case c64 => k_is)
    (case k64 => k_is)
    (case a65 => k_is)
    (case l65 => k_is)
    (case c65 => k_is)
    (case k65 => k_is)
    (case a66 => k_is)
    (case l66 => k_is)
    (case c66 => k_is)
    (case k66 => k_is)
    (case a67 => k_is)
    (case l67 => k_is)
    (case c67 => k_is)
    (case k67 => k_is)
    (case a68 => k_is)
    (case l68 => k_is)
    (case c68 => k_is)
    (case k68 => k_is)
    (case a69 => k_is)
    (case l69 => k_is)
    (case c69 => k_is)
    (case k69 => k_is)
    (case a70 => k_is)
    (case l70 => k_is)
    (case c70 => k_is)
    (case k70 => k_is)
    (case a71 => k_is)
    (case l71 => k_is)
    (case c71 => k_is)
    (case k71 => k_is)
    (case a72 => k_is)
    (case l72 => k_is)
    (case c72 => k_is)
    (case k72 => k_is)
    (case a73 => k_is)
    (case l73 => k_is)
    (case c73 => k_is)
    (case k73 => k_is)
    (case c_ZERO => k_is)
    (case l_ZERO => k_is)
    (case c_ONE => k_is)
    (case l_ONE => k_is)
    (case c_MOST_DIVISOR => k_is)
    (case c_MOST_NUMBER => k_is)
    (case c_NO_SUCH => k_is)
    (case c_NOT_BEGUN => k_is)
    (case c_RULE_IS_THERE => k_is)
    (case c_WRONG => k_is)
    (case c_TOO_MANY_RULES => k_is)
    (case c_NOT_TOLD => k_is)
    (case c_MOST_SUBSTANCES => k_is)
    (case c_MOST_OF_ONE => k_is)
    (case c_MOST_RULES => k_is)
    (case c_MOST_IN_SPEED => k_is)
    (case c_BEGIN => k_is)
    (case c_RULE => k_is)
    (case c_UNRULE => k_is)
    (case c_RULEIS => k_is)
    (case c_SPEED => k_is)
    (case c_LEFTS => k_is)
    (case c_RELATIONS => k_is)
    (case c_RATIO => k_is)
    (case c_LEVEL => k_is)
    (case c_IFSPEED => k_is)
    (case c_PAIRS => k_is)
    (case c_SAME => k_is)
    (case c_ENDS => k_is)
    (case c_HIDES => k_is)
    (case c_WEIGHT => k_is)
    (case c_STEADY => k_is)
    (case c_NUMBERS => k_is)
    (case l_NUMBERS => k_is)
    (case c_WITH_ROW => k_is)
    (case l_WITH_ROW => k_is)
    (case z_len => k_is)
    (case z_abs => k_is)
    (case z_range => k_is)
    (case z_max => k_is)
    (case z_list => k_is)
    (case z_tuple => k_is)
    (case pg => k_is)
    (case hd => k_is)
    (case po => k_is)
    (case sa => k_is)
    (case mk => k_is)
    (case kc => k_is)
    (case nS => k_is)
    (case nR => k_is)
  case S =>
    intro K H xs a hO hwi hask hx
    cases hx with
    | cons h1 h2 =>
      cases h2
      cases h1 with
      | lst hs ha =>
        have e := L2.ints_dw a.1 _ ha
        subst e
        have q : ((Codec.inLen 0 800 a.1 && a.1.all (Codec.inInt 0 4294967295)) && true) = true := hwi
        rw [Bool.and_eq_true, Bool.and_eq_true] at q
        refine ⟨_, a.1, rfl, hs, hask, (Codec.inNat_iff.mp q.1.1).2, fun x hx => ?_, fun H' p hp => .lst (L2.SqL.of hp) (L2.dw_ints _)⟩
        exact Codec.inInt_iff.mp (List.all_eq_true.mp q.1.2 x hx)
#print axioms PySem.Challenge.cw_samelevels_s01_answers_holds
