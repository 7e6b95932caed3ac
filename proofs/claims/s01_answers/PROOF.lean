import PyProof.Rows.All
import Wide.All
import OpenK.AllK
import Wide.FinOn
import Open.SpecLaws
import KE.OsGo
import KE.KDictZip
import KE.KDictSum
import HandS.ForSpec
import HandS.ForMost
import HandS.More
import HandS.Style
import HandS.Sort
import HandS.Wide
import HandS.Walk
import HandS.Flow
import HandS.Conv
import HandS.CallRecv
import HandS.SetKeys
import HandS.Zip
import PySem.Challenge.RW_bychancedesk_s01_answers
set_option Elab.async false
/-! ByA: weighted sums over Rat, the greatest-value principle, comparison of values. Core Lean alone. -/
namespace By
abbrev Outs := List (Nat × Nat)
/-- weights times values, added up -/
def wsum : Outs → (Nat → Rat) → Rat
  | [], _ => 0
  | x :: o, v => (x.2 : Rat) * v x.1 + wsum o v
theorem wsum_sub (o : Outs) (u v : Nat → Rat) : wsum o (fun s => u s - v s) = wsum o u - wsum o v := by
  induction o with
  | nil => simp only [wsum]; grind
  | cons x o ih => simp only [wsum, ih]; grind
theorem wsum_add (o : Outs) (u v : Nat → Rat) : wsum o (fun s => u s + v s) = wsum o u + wsum o v := by
  induction o with
  | nil => simp only [wsum]; grind
  | cons x o ih => simp only [wsum, ih]; grind
theorem wsum_neg (o : Outs) (u : Nat → Rat) : wsum o (fun s => - u s) = - wsum o u := by
  induction o with
  | nil => simp [wsum]
  | cons x o ih => simp only [wsum, ih]; grind
theorem wsum_smul (o : Outs) (c : Rat) (u : Nat → Rat) : wsum o (fun s => c * u s) = c * wsum o u := by
  induction o with
  | nil => simp [wsum]
  | cons x o ih => simp only [wsum, ih]; grind
def whole (o : Outs) : Rat := wsum o (fun _ => 1)
theorem wsum_const (o : Outs) (c : Rat) : wsum o (fun _ => c) = c * whole o := by
  induction o with
  | nil => simp [wsum, whole]
  | cons x o ih => simp only [wsum, whole] at *; grind
theorem wsum_congr {o : Outs} {u v : Nat → Rat} (h : ∀ x ∈ o, u x.1 = v x.1) : wsum o u = wsum o v := by
  induction o with
  | nil => rfl
  | cons x o ih => simp only [wsum]; rw [h x (by simp), ih (fun y hy => h y (by simp [hy]))]
theorem cast_nonneg (n : Nat) : (0 : Rat) ≤ (n : Rat) := by
  have : ((0 : Nat) : Rat) ≤ (n : Rat) := Rat.natCast_le_natCast.mpr (Nat.zero_le n)
  simpa using this
theorem cast_pos {n : Nat} (h : 0 < n) : (0 : Rat) < (n : Rat) := by
  have : ((0 : Nat) : Rat) < (n : Rat) := Rat.natCast_lt_natCast.mpr h
  simpa using this
theorem wsum_le {o : Outs} {u v : Nat → Rat} (h : ∀ x ∈ o, u x.1 ≤ v x.1) : wsum o u ≤ wsum o v := by
  induction o with
  | nil => simp [wsum]
  | cons x o ih =>
    simp only [wsum]
    have h1 := Rat.mul_le_mul_of_nonneg_left (h x (by simp)) (cast_nonneg x.2)
    have h2 := ih (fun y hy => h y (by simp [hy]))
    grind
theorem wsum_eq_of {o : Outs} {u v : Nat → Rat} (pos : ∀ x ∈ o, 0 < x.2) (h : ∀ x ∈ o, u x.1 ≤ v x.1) (e : wsum o v ≤ wsum o u) :
    ∀ x ∈ o, u x.1 = v x.1 := by
  induction o with
  | nil => simp
  | cons x o ih =>
    simp only [wsum] at e
    have p := cast_pos (pos x (by simp))
    have hx := h x (by simp)
    have h1 := Rat.mul_le_mul_of_nonneg_left hx (cast_nonneg x.2)
    have h2 := wsum_le (fun y hy => h y (List.mem_cons_of_mem _ hy))
    have e1 : (x.2 : Rat) * u x.1 = (x.2 : Rat) * v x.1 := by grind
    have e2 : wsum o v ≤ wsum o u := by grind
    have e3 : u x.1 = v x.1 := by
      have : (x.2 : Rat) * (u x.1 - v x.1) = 0 := by grind
      rcases Rat.mul_eq_zero.mp this with h | h <;> grind
    intro y hy
    rcases List.mem_cons.mp hy with rfl | hy
    · exact e3
    · exact ih (fun y hy => pos y (List.mem_cons_of_mem _ hy)) (fun y hy => h y (List.mem_cons_of_mem _ hy)) e2 y hy
theorem whole_pos {o : Outs} (pos : ∀ x ∈ o, 0 < x.2) (ne : o ≠ []) : 0 < whole o := by
  cases o with
  | nil => exact absurd rfl ne
  | cons x o =>
    simp only [whole, wsum]
    have p := cast_pos (pos x (by simp))
    have h2 : wsum o (fun _ => 0) ≤ wsum o (fun _ => 1) := wsum_le (fun _ _ => by decide)
    rw [wsum_const] at h2
    grind
/-- one may come from s to where T holds -/
inductive Hits (f : Nat → Outs) (T : Nat → Prop) : Nat → Prop
  | here {s : Nat} : T s → Hits f T s
  | step {s : Nat} {x : Nat × Nat} : x ∈ f s → Hits f T x.1 → Hits f T s
theorem Hits.mono {f g : Nat → Outs} {T U : Nat → Prop} {s : Nat} (h : Hits f T s) (a : ∀ s x, x ∈ f s → ¬ U s → ∃ y ∈ g s, y.1 = x.1) (b : ∀ s, T s → U s) : Hits g U s := by
  induction h with
  | here h => exact .here (b _ h)
  | @step s x hx _ ih =>
    by_cases hu : U s
    · exact .here hu
    · obtain ⟨y, hy, e⟩ := a _ _ hx hu
      exact .step hy (e ▸ ih)
theorem exists_max (d : Nat → Rat) : ∀ (D : List Nat), D ≠ [] → ∃ m ∈ D, ∀ s ∈ D, d s ≤ d m
  | [], h => absurd rfl h
  | [a], _ => ⟨a, by simp, by intro s hs; simp at hs; subst hs; grind⟩
  | a :: b :: l, _ => by
    obtain ⟨m, hm, h⟩ := exists_max d (b :: l) (by simp)
    by_cases c : d m ≤ d a
    · refine ⟨a, by simp, fun s hs => ?_⟩
      rcases List.mem_cons.mp hs with rfl | hs
      · grind
      · have := h s hs; grind
    · refine ⟨m, List.mem_cons_of_mem _ hm, fun s hs => ?_⟩
      rcases List.mem_cons.mp hs with rfl | hs
      · grind
      · exact h s hs
/-- **The greatest-value principle.** -/
theorem max_le (D : List Nat) (f : Nat → Outs) (pos : ∀ s ∈ D, ∀ x ∈ f s, 0 < x.2) (d : Nat → Rat)
    (h1 : ∀ s ∈ D, wsum (f s) (fun _ => d s) ≤ wsum (f s) d)
    (h2 : ∀ s ∈ D, ∀ x ∈ f s, x.1 ∈ D ∨ d x.1 ≤ 0)
    (h3 : ∀ s ∈ D, Hits f (fun u => u ∉ D) s) : ∀ s ∈ D, d s ≤ 0 := by
  by_cases ne : D = []
  · subst ne; simp
  obtain ⟨m, hm, hmax⟩ := exists_max d D ne
  by_cases hp : d m ≤ 0
  · intro s hs; have := hmax s hs; grind
  exfalso
  have key : ∀ s, Hits f (fun u => u ∉ D) s → s ∈ D → d s = d m → False := by
    intro s h
    induction h with
    | here h => intro hs _; exact h hs
    | @step s x hx _ ih =>
      intro hs e
      have hle : ∀ y ∈ f s, d y.1 ≤ (fun _ => d s) y.1 := by
        intro y hy
        rcases h2 s hs y hy with h | h
        · have := hmax _ h; grind
        · show d y.1 ≤ d s
          grind
      have ex := wsum_eq_of (pos s hs) hle (h1 s hs) x hx
      have ex' : d x.1 = d m := by simpa [e] using ex
      rcases h2 s hs x hx with h | h
      · exact ih h ex'
      · rw [ex'] at h; exact hp h
  exact key m (h3 m hm) hm rfl
/-- **Comparison**: what is at most its mean and what is at least its mean, over a rule that leaves D. -/
theorem compare (D : List Nat) (f : Nat → Outs) (pos : ∀ s ∈ D, ∀ x ∈ f s, 0 < x.2) (r : Nat → Rat) (u v : Nat → Rat)
    (hu : ∀ s ∈ D, wsum (f s) (fun _ => u s) ≤ wsum (f s) u + r s)
    (hv : ∀ s ∈ D, wsum (f s) v + r s ≤ wsum (f s) (fun _ => v s))
    (h2 : ∀ s ∈ D, ∀ x ∈ f s, x.1 ∈ D ∨ u x.1 ≤ v x.1)
    (h3 : ∀ s ∈ D, Hits f (fun u => u ∉ D) s) : ∀ s ∈ D, u s ≤ v s := by
  intro s hs
  have := max_le D f pos (fun s => u s - v s) (fun s hs => by
    have e1 := wsum_sub (f s) u v
    have e2 := wsum_sub (f s) (fun _ => u s) (fun _ => v s)
    have := hu s hs
    have := hv s hs
    grind) (fun s hs x hx => by
      rcases h2 s hs x hx with h | h
      · exact .inl h
      · exact .inr (by grind)) h3 s hs
  grind
end By

/-! ByQ: the specification's fractions are Rat's. -/
namespace By
open Pn08
/-- in lowest terms, the denominator above 0 -/
def Ok (q : Q) : Prop := 0 < q.d ∧ Nat.gcd q.n.natAbs q.d = 1
def R (q : Q) : Rat := (q.n : Rat) / (q.d : Rat)
theorem castN_ne {d : Nat} (h : 0 < d) : (d : Rat) ≠ 0 := by
  have := cast_pos h; grind
theorem R_low {q : Q} (h : 0 < q.d) : R q.low = R q ∧ Ok q.low := by
  have hg : 0 < Nat.gcd q.n.natAbs q.d := Nat.gcd_pos_of_pos_right _ h
  unfold Q.low
  have hne : Nat.gcd q.n.natAbs q.d ≠ 0 := by omega
  simp only [hne, if_false]
  obtain ⟨k, hk⟩ := Nat.gcd_dvd_right q.n.natAbs q.d
  obtain ⟨m, hm⟩ := Nat.gcd_dvd_left q.n.natAbs q.d
  generalize hgg : Nat.gcd q.n.natAbs q.d = g at *
  have hdv : (g : Int) ∣ q.n := Int.ofNat_dvd_left.mpr ⟨m, hm⟩
  obtain ⟨j, hj⟩ := hdv
  have e1 : q.n / (g : Int) = j := by rw [hj]; exact Int.mul_ediv_cancel_left _ (by omega)
  have e2 : q.d / g = k := by rw [hk]; exact Nat.mul_div_cancel_left _ hg
  have hk0 : 0 < k := by
    rcases Nat.eq_zero_or_pos k with r | r
    · subst r; omega
    · exact r
  constructor
  · unfold R
    simp only [e1, e2]
    rw [hj, hk]
    have a := castN_ne hg
    have b := castN_ne hk0
    simp only [Rat.intCast_mul, Rat.natCast_mul, Rat.intCast_natCast]
    grind
  · refine ⟨by simpa only [e2] using hk0, ?_⟩
    simp only [e1, e2]
    have : Nat.gcd (g * j.natAbs) (g * k) = g := by
      rw [← hk]
      have : g * j.natAbs = q.n.natAbs := by rw [hj, Int.natAbs_mul]; simp
      rw [this]; exact hgg
    rw [Nat.gcd_mul_left] at this
    have h2 : g * Nat.gcd j.natAbs k = g * 1 := by omega
    exact Nat.eq_of_mul_eq_mul_left hg h2
theorem Ok.pos {q : Q} (h : Ok q) : 0 < q.d := h.1
theorem ok_zero : Ok zero := ⟨by decide, by decide⟩
theorem ok_one : Ok one := ⟨by decide, by decide⟩
theorem ok_of (n : Int) : Ok (Q.of n) := ⟨by simp [Q.of], by simp [Q.of]⟩
theorem R_zero : R zero = 0 := by unfold R zero; simp; grind
theorem R_one : R one = 1 := by unfold R one; simp; grind
theorem R_of (n : Int) : R (Q.of n) = n := by unfold R Q.of; simp; grind
theorem R_plus {a b : Q} (ha : 0 < a.d) (hb : 0 < b.d) : R (a.plus b) = R a + R b ∧ Ok (a.plus b) := by
  have h := R_low (q := ⟨a.n * (b.d : Int) + b.n * (a.d : Int), a.d * b.d⟩) (Nat.mul_pos ha hb)
  refine ⟨h.1.trans ?_, h.2⟩
  unfold R
  have x := castN_ne ha
  have y := castN_ne hb
  simp only [Rat.intCast_mul, Rat.intCast_add, Rat.natCast_mul, Rat.intCast_natCast]
  grind
theorem R_minus {a b : Q} (ha : 0 < a.d) (hb : 0 < b.d) : R (a.minus b) = R a - R b ∧ Ok (a.minus b) := by
  have h := R_low (q := ⟨a.n * (b.d : Int) - b.n * (a.d : Int), a.d * b.d⟩) (Nat.mul_pos ha hb)
  refine ⟨h.1.trans ?_, h.2⟩
  unfold R
  have x := castN_ne ha
  have y := castN_ne hb
  simp only [Rat.intCast_mul, Rat.intCast_sub, Rat.natCast_mul, Rat.intCast_natCast]
  grind
theorem R_times {a b : Q} (ha : 0 < a.d) (hb : 0 < b.d) : R (a.times b) = R a * R b ∧ Ok (a.times b) := by
  have h := R_low (q := ⟨a.n * b.n, a.d * b.d⟩) (Nat.mul_pos ha hb)
  refine ⟨h.1.trans ?_, h.2⟩
  unfold R
  have x := castN_ne ha
  have y := castN_ne hb
  simp only [Rat.intCast_mul, Rat.natCast_mul, Rat.intCast_natCast]
  grind
theorem R_eq_zero {a : Q} (ha : 0 < a.d) : R a = 0 ↔ a.n = 0 := by
  unfold R
  have x := castN_ne ha
  constructor
  · intro h
    have : (a.n : Rat) = 0 := by grind
    have h2 : ((a.n : Int) : Rat) = ((0 : Int) : Rat) := by simpa using this
    exact Rat.intCast_inj.mp h2
  · intro h; rw [h]; simp; grind
theorem R_over {a b : Q} (ha : 0 < a.d) (hb : 0 < b.d) (h0 : b.n ≠ 0) : R (a.over b) = R a / R b ∧ Ok (a.over b) := by
  have x := castN_ne ha
  have y := castN_ne hb
  have hn : 0 < b.n.natAbs := by omega
  have z := castN_ne hn
  unfold Q.over
  rw [if_neg h0]
  by_cases c : b.n < 0
  · rw [if_pos c]
    have h := R_low (q := ⟨-(a.n * (b.d : Int)), a.d * b.n.natAbs⟩) (Nat.mul_pos ha hn)
    refine ⟨h.1.trans ?_, h.2⟩
    unfold R
    have e : b.n = -((b.n.natAbs : Nat) : Int) := by omega
    have e' : (b.n : Rat) = -(b.n.natAbs : Rat) := by
      have := congrArg (fun (i : Int) => (i : Rat)) e
      simp only [Rat.intCast_neg, Rat.intCast_natCast] at this
      exact this
    simp only [Rat.intCast_mul, Rat.intCast_neg, Rat.natCast_mul, Rat.intCast_natCast, e']
    grind
  · rw [if_neg c]
    have h := R_low (q := ⟨a.n * (b.d : Int), a.d * b.n.natAbs⟩) (Nat.mul_pos ha hn)
    refine ⟨h.1.trans ?_, h.2⟩
    unfold R
    have e : b.n = ((b.n.natAbs : Nat) : Int) := by omega
    have e' : (b.n : Rat) = (b.n.natAbs : Rat) := by
      have := congrArg (fun (i : Int) => (i : Rat)) e
      simp only [Rat.intCast_natCast] at this
      exact this
    simp only [Rat.intCast_mul, Rat.natCast_mul, Rat.intCast_natCast, e']
    grind
/-- cross products tell it -/
theorem R_lt {a b : Q} (ha : 0 < a.d) (hb : 0 < b.d) : R a < R b ↔ a.n * (b.d : Int) < b.n * (a.d : Int) := by
  have x := cast_pos ha
  have y := cast_pos hb
  have e : (a.n * (b.d : Int) < b.n * (a.d : Int)) ↔ (a.n : Rat) * (b.d : Rat) < (b.n : Rat) * (a.d : Rat) := by
    rw [← Rat.intCast_lt_intCast]
    simp only [Rat.intCast_mul, Rat.intCast_natCast]
  rw [e]
  unfold R
  have xy := Rat.mul_pos x y
  have i1 : (a.n : Rat) / a.d * (a.d * b.d) = a.n * b.d := by grind
  have i2 : (b.n : Rat) / b.d * (a.d * b.d) = b.n * a.d := by grind
  constructor
  · intro h
    have := Rat.mul_lt_mul_of_pos_right h xy
    rwa [i1, i2] at this
  · intro h
    rw [← i1, ← i2] at h
    exact (Rat.mul_lt_mul_right xy).mp h
theorem R_eq {a b : Q} (ha : 0 < a.d) (hb : 0 < b.d) : R a = R b ↔ a.n * (b.d : Int) = b.n * (a.d : Int) := by
  have h1 := R_lt ha hb
  have h2 := R_lt hb ha
  constructor
  · intro h
    have a1 : ¬ R a < R b := by grind
    have a2 : ¬ R b < R a := by grind
    rw [h1] at a1
    rw [h2] at a2
    omega
  · intro h
    have a1 : ¬ R a < R b := by rw [h1]; omega
    have a2 : ¬ R b < R a := by rw [h2]; omega
    grind
theorem less_iff {a b : Q} (ha : 0 < a.d) (hb : 0 < b.d) : a.less b = true ↔ R a < R b := by
  unfold Q.less; rw [decide_eq_true_iff, R_lt ha hb]
theorem same_iff {a b : Q} (ha : 0 < a.d) (hb : 0 < b.d) : a.same b = true ↔ R a = R b := by
  unfold Q.same; rw [beq_iff_eq, R_eq ha hb]
/-- lowest terms are one -/
theorem R_inj {a b : Q} (ha : Ok a) (hb : Ok b) (h : R a = R b) : a = b := by
  have e := (R_eq ha.1 hb.1).mp h
  have e1 : a.n.natAbs * b.d = b.n.natAbs * a.d := by
    have := congrArg Int.natAbs e
    simpa [Int.natAbs_mul] using this
  have d1 : a.d ∣ b.d := by
    have : a.d ∣ a.n.natAbs * b.d := ⟨b.n.natAbs, by rw [e1, Nat.mul_comm]⟩
    exact (Nat.Coprime.dvd_of_dvd_mul_left (Nat.Coprime.symm ha.2) this)
  have d2 : b.d ∣ a.d := by
    have : b.d ∣ b.n.natAbs * a.d := ⟨a.n.natAbs, by rw [← e1, Nat.mul_comm]⟩
    exact (Nat.Coprime.dvd_of_dvd_mul_left (Nat.Coprime.symm hb.2) this)
  have ed : a.d = b.d := Nat.dvd_antisymm d1 d2
  have en : a.n = b.n := by
    rw [ed] at e
    exact Int.eq_of_mul_eq_mul_right (by have := hb.1; omega) e
  cases a; cases b; simp_all
end By

/-! ByS: the specification's solve. -/
namespace By
open Pn08
def AllOk (l : List Q) : Prop := ∀ q ∈ l, Ok q
theorem AllOk.getD {l : List Q} (h : AllOk l) (i : Nat) : Ok (l.getD i zero) := by
  rw [List.getD_eq_getElem?_getD]
  cases e : l[i]? with
  | none => exact ok_zero
  | some q => exact h q (List.mem_of_getElem? e)
/-- a row at some values -/
def ev : List Q → (Nat → Rat) → Rat
  | [], _ => 0
  | q :: l, z => R q * z 0 + ev l (fun j => z (j + 1))
theorem ev_add : ∀ (l : List Q) (y z : Nat → Rat), ev l (fun j => y j + z j) = ev l y + ev l z
  | [], _, _ => by simp only [ev]; grind
  | q :: l, y, z => by
    simp only [ev]
    rw [ev_add l (fun j => y (j + 1)) (fun j => z (j + 1))]
    grind
theorem ev_zero : ∀ (l : List Q) (z : Nat → Rat), (∀ j, j < l.length → R (l.getD j zero) * z j = 0) → ev l z = 0
  | [], _, _ => rfl
  | q :: l, z, h => by
    simp only [ev]
    rw [ev_zero l (fun j => z (j + 1)) (fun j hj => by simpa using h (j + 1) (by simpa using hj))]
    have := h 0 (by simp)
    simp at this
    grind
theorem ev_single : ∀ (l : List Q) (z : Nat → Rat) (i : Nat), i < l.length → (∀ j, j < l.length → j ≠ i → R (l.getD j zero) * z j = 0) →
    ev l z = R (l.getD i zero) * z i
  | [], _, _, hi, _ => by simp at hi
  | q :: l, z, 0, _, h => by
    simp only [ev]
    rw [ev_zero l (fun j => z (j + 1)) (fun j hj => by simpa using h (j + 1) (by simpa using hj) (by omega))]
    simp
    grind
  | q :: l, z, i + 1, hi, h => by
    simp only [ev]
    rw [ev_single l (fun j => z (j + 1)) i (by simpa using hi) (fun j hj ne => by simpa using h (j + 1) (by simpa using hj) (by omega))]
    have := h 0 (by simp) (by omega)
    simp at this
    simp
    grind
theorem ev_congr : ∀ (l : List Q) (y z : Nat → Rat), (∀ j, j < l.length → y j = z j) → ev l y = ev l z
  | [], _, _, _ => rfl
  | q :: l, y, z, h => by
    simp only [ev]
    rw [h 0 (by simp), ev_congr l (fun j => y (j + 1)) (fun j => z (j + 1)) (fun j hj => h (j + 1) (by simpa using hj))]
theorem over_map {b : Q} (hb : 0 < b.d) (h0 : b.n ≠ 0) : ∀ (l : List Q), AllOk l → AllOk (l.map fun x => x.over b) ∧
    (∀ j, j < l.length → R ((l.map fun x => x.over b).getD j zero) = R (l.getD j zero) / R b) ∧
    (∀ z, ev (l.map fun x => x.over b) z = ev l z / R b)
  | [], _ => ⟨by intro q hq; simp at hq, by intro j hj; simp at hj, fun z => by simp [ev]; grind⟩
  | q :: l, h => by
    have hq : Ok q := h q (by simp)
    have ih := over_map hb h0 l (fun x hx => h x (by simp [hx]))
    have r := R_over hq.1 hb h0
    have nz : R b ≠ 0 := fun e => h0 ((R_eq_zero hb).mp e)
    refine ⟨?_, ?_, ?_⟩
    · intro x hx
      rcases List.mem_cons.mp hx with e | hx
      · rw [e]; exact r.2
      · exact ih.1 x hx
    · intro j hj
      cases j with
      | zero => simpa using r.1
      | succ j => simpa using ih.2.1 j (by simpa using hj)
    · intro z
      simp only [List.map_cons, ev, r.1, ih.2.2]
      grind
theorem sub_map {k : Q} (hk : 0 < k.d) : ∀ (r p : List Q), AllOk r → AllOk p → r.length = p.length →
    AllOk ((r.zip p).map fun x => x.1.minus (k.times x.2)) ∧ ((r.zip p).map fun x => x.1.minus (k.times x.2)).length = r.length ∧
    (∀ j, j < r.length → R (((r.zip p).map fun x => x.1.minus (k.times x.2)).getD j zero) = R (r.getD j zero) - R k * R (p.getD j zero)) ∧
    (∀ z, ev ((r.zip p).map fun x => x.1.minus (k.times x.2)) z = ev r z - R k * ev p z)
  | [], [], _, _, _ => ⟨by intro q hq; simp at hq, rfl, by intro j hj; simp at hj, fun z => by simp [ev]; grind⟩
  | [], _ :: _, _, _, e => by simp at e
  | _ :: _, [], _, _, e => by simp at e
  | a :: r, b :: p, hr, hp, e => by
    have ha : Ok a := hr a (by simp)
    have hb : Ok b := hp b (by simp)
    have ih := sub_map hk r p (fun x hx => hr x (by simp [hx])) (fun x hx => hp x (by simp [hx])) (by simpa using e)
    have t := R_times hk hb.1
    have m := R_minus ha.1 t.2.1
    refine ⟨?_, ?_, ?_, ?_⟩
    · intro x hx
      rw [List.zip_cons_cons, List.map_cons] at hx
      rcases List.mem_cons.mp hx with e | hx
      · rw [e]; exact m.2
      · exact ih.1 x hx
    · simpa using ih.2.1
    · intro j hj
      cases j with
      | zero => simpa [t.1] using m.1
      | succ j => simpa using ih.2.2.1 j (by simpa using hj)
    · intro z
      simp only [List.zip_cons_cons, List.map_cons, ev, m.1, t.1, ih.2.2.2]
      grind
theorem pivot_none {c : Nat} : ∀ (l : List (List Q)), pivot c l = none → ∀ r ∈ l, (r.getD c zero).n = 0
  | [], _ => by simp
  | r :: l, h => by
    unfold pivot at h
    by_cases e : (r.getD c zero).n = 0
    · rw [if_neg (by simpa using e)] at h
      simp only [Option.map_eq_none_iff] at h
      intro x hx
      rcases List.mem_cons.mp hx with rfl | hx
      · exact e
      · exact pivot_none l h x hx
    · rw [if_pos e] at h; cases h
theorem pivot_some {c : Nat} : ∀ (l : List (List Q)) (x : List Q × List (List Q)), pivot c l = some x →
    (x.1.getD c zero).n ≠ 0 ∧ (∀ y, y ∈ l ↔ y = x.1 ∨ y ∈ x.2) ∧ x.2.length + 1 = l.length
  | [], _, h => by simp [pivot] at h
  | r :: l, x, h => by
    unfold pivot at h
    by_cases e : (r.getD c zero).n = 0
    · rw [if_neg (by simpa using e)] at h
      rw [Option.map_eq_some_iff] at h
      obtain ⟨y, hy, rfl⟩ := h
      have ih := pivot_some l y hy
      refine ⟨ih.1, ?_, ?_⟩
      · intro w
        simp only [List.mem_cons, ih.2.1 w]
        constructor
        · rintro (h | h | h) <;> simp [h]
        · rintro (h | h | h) <;> simp [h]
      · simp only [List.length_cons]; omega
    · rw [if_pos e] at h
      cases h
      exact ⟨e, fun y => List.mem_cons, rfl⟩
structure Row (N : Nat) (r : List Q) : Prop where
  ok : AllOk r
  len : r.length = N + 1
def Zeros (l : List (List Q)) (z : Nat → Rat) : Prop := ∀ r ∈ l, ev r z = 0
/-- only 0 solves what is without right sides -/
def Thin (N : Nat) (l : List (List Q)) : Prop := ∀ z : Nat → Rat, z N = 0 → Zeros l z → ∀ j, j < N → z j = 0
def Unit (N : Nat) (l : List (List Q)) : Prop := ∀ i j, i < l.length → j < N → R ((l.getD i []).getD j zero) = if i = j then 1 else 0
theorem scaled_row {N c : Nat} {r : List Q} (h : Row N r) (h0 : (r.getD c zero).n ≠ 0) : Row N (scaled c r) ∧
    (∀ j, j < N + 1 → R ((scaled c r).getD j zero) = R (r.getD j zero) / R (r.getD c zero)) ∧ (∀ z, ev (scaled c r) z = ev r z / R (r.getD c zero)) := by
  have x := over_map (h.ok.getD c).1 h0 r h.ok
  exact ⟨⟨x.1, by unfold scaled; simpa using h.len⟩, fun j hj => x.2.1 j (by rw [h.len]; exact hj), x.2.2⟩
theorem less_row {N c : Nat} {p r : List Q} (hr : Row N r) (hp : Row N p) : Row N (less_ c p r) ∧
    (∀ j, j < N + 1 → R ((less_ c p r).getD j zero) = R (r.getD j zero) - R (r.getD c zero) * R (p.getD j zero)) ∧
    (∀ z, ev (less_ c p r) z = ev r z - R (r.getD c zero) * ev p z) := by
  have x := sub_map (hr.ok.getD c).1 r p hr.ok hp.ok (by rw [hr.len, hp.len])
  exact ⟨⟨x.1, x.2.1.trans hr.len⟩, fun j hj => x.2.2.1 j (by rw [hr.len]; exact hj), x.2.2.2⟩
theorem getD_mem {α : Type} {l : List α} {i : Nat} {d : α} (h : i < l.length) : l.getD i d ∈ l := by
  rw [List.getD_eq_getElem?_getD, List.getElem?_eq_getElem h]
  exact List.getElem_mem h
/-- **What clear leaves.** -/
theorem clear_spec (N : Nat) : ∀ (n c : Nat) (done rest : List (List Q)), c + n = N → done.length = c → rest.length = n →
    (∀ r ∈ done ++ rest, Row N r) → (∀ i j, i < c → j < c → R ((done.getD i []).getD j zero) = if i = j then 1 else 0) →
    (∀ r ∈ rest, ∀ j, j < c → R (r.getD j zero) = 0) → Thin N (done ++ rest) →
    (clear n c done rest).length = N ∧ (∀ r ∈ clear n c done rest, Row N r) ∧ Unit N (clear n c done rest) ∧
    (∀ z, Zeros (clear n c done rest) z ↔ Zeros (done ++ rest) z)
  | 0, c, done, rest, hN, hd, hr, hrow, hu, _, _ => by
    have e : rest = [] := List.length_eq_zero_iff.mp hr
    subst e
    unfold clear
    refine ⟨by omega, fun r h => hrow r (by simpa using h), fun i j hi hj => hu i j (by omega) (by omega), fun z => by simp⟩
  | n + 1, c, done, rest, hN, hd, hr, hrow, hu, h0, thin => by
    unfold clear
    split
    · rename_i hp
      exfalso
      have hz := pivot_none rest hp
      let z1 : Nat → Rat := fun j => if j < c then - R ((done.getD j []).getD c zero) else 0
      let z2 : Nat → Rat := fun j => if j = c then 1 else 0
      have hcN : c < N := by omega
      have := thin (fun j => z1 j + z2 j) (by simp only [z1, z2]; rw [if_neg (by omega), if_neg (by omega)]; grind) (by
        intro r hr'
        rw [ev_add]
        have hrow' := hrow r hr'
        rcases List.mem_append.mp hr' with hm | hm
        · obtain ⟨i, hi, rfl⟩ := List.mem_iff_getElem.mp hm
          have e : done.getD i [] = done[i] := by rw [List.getD_eq_getElem?_getD, List.getElem?_eq_getElem hi]; rfl
          have x1 := ev_single done[i] z1 i (by rw [hrow'.len]; omega) (fun j hj ne => by
            simp only [z1]
            by_cases hjc : j < c
            · have := hu i j (by omega) hjc
              rw [e, if_neg (by omega)] at this
              rw [this]; grind
            · rw [if_neg hjc]; grind)
          have x2 := ev_single done[i] z2 c (by rw [hrow'.len]; omega) (fun j hj ne => by
            simp only [z2]; rw [if_neg ne]; grind)
          have := hu i i (by omega) (by omega)
          rw [e, if_pos rfl] at this
          rw [x1, x2, this]
          simp only [z1, z2]
          rw [if_pos (by omega), if_pos trivial, e]
          grind
        · have hc0 : R (r.getD c zero) = 0 := (R_eq_zero (hrow'.ok.getD c).1).mpr (hz r hm)
          have x1 := ev_zero r z1 (fun j hj => by
            simp only [z1]
            by_cases hjc : j < c
            · rw [h0 r hm j hjc]; grind
            · rw [if_neg hjc]; grind)
          have x2 := ev_zero r z2 (fun j hj => by
            simp only [z2]
            by_cases hjc : j = c
            · rw [hjc, hc0]; grind
            · rw [if_neg hjc]; grind)
          rw [x1, x2]; grind) c hcN
      simp only [z1, z2] at this
      rw [if_neg (by omega), if_pos trivial] at this
      grind
    · rename_i x hx
      obtain ⟨p0, l⟩ := x
      have hp := pivot_some rest (p0, l) hx
      simp only at hp
      obtain ⟨hn0, hmem, hlen⟩ := hp
      have hp0 : p0 ∈ rest := (hmem p0).mpr (.inl rfl)
      have rp0 : Row N p0 := hrow p0 (List.mem_append_right _ hp0)
      obtain ⟨rp, ep, vp⟩ := scaled_row rp0 hn0
      have nz : R (p0.getD c zero) ≠ 0 := fun e => hn0 ((R_eq_zero (rp0.ok.getD c).1).mp e)
      have hcN : c < N := by omega
      have pc : R ((scaled c p0).getD c zero) = 1 := by rw [ep c (by omega)]; grind
      have pj : ∀ j, j < c → R ((scaled c p0).getD j zero) = 0 := fun j hj => by
        rw [ep j (by omega), h0 p0 hp0 j hj]; grind
      have rl : ∀ r ∈ l, Row N r := fun r h => hrow r (List.mem_append_right _ ((hmem r).mpr (.inr h)))
      have rd : ∀ r ∈ done, Row N r := fun r h => hrow r (List.mem_append_left _ h)
      have eqv : ∀ z, Zeros ((done.map (less_ c (scaled c p0)) ++ [scaled c p0]) ++ l.map (less_ c (scaled c p0))) z ↔ Zeros (done ++ rest) z := by
        intro z
        constructor
        · intro h
          have hpz : ev (scaled c p0) z = 0 := h _ (by simp)
          have hp0z : ev p0 z = 0 := by
            have := vp z
            rw [hpz] at this
            have e : ev p0 z = ev p0 z / R (p0.getD c zero) * R (p0.getD c zero) := by grind
            rw [e, ← this]; grind
          intro r hr'
          rcases List.mem_append.mp hr' with hm | hm
          · have := h (less_ c (scaled c p0) r) (by simp only [List.mem_append, List.mem_map]; exact .inl (.inl ⟨r, hm, rfl⟩))
            rw [(less_row (rd r hm) rp).2.2 z, hpz] at this
            grind
          · rcases (hmem r).mp hm with rfl | hm'
            · exact hp0z
            · have := h (less_ c (scaled c p0) r) (by simp only [List.mem_append, List.mem_map]; exact .inr ⟨r, hm', rfl⟩)
              rw [(less_row (rl r hm') rp).2.2 z, hpz] at this
              grind
        · intro h
          have hpz : ev (scaled c p0) z = 0 := by
            rw [vp z, h p0 (List.mem_append_right _ hp0)]; grind
          intro r hr'
          simp only [List.mem_append, List.mem_map, List.mem_singleton] at hr'
          rcases hr' with (⟨r', hm, rfl⟩ | rfl) | ⟨r', hm, rfl⟩
          · rw [(less_row (rd r' hm) rp).2.2 z, hpz, h r' (List.mem_append_left _ hm)]; grind
          · exact hpz
          · rw [(less_row (rl r' hm) rp).2.2 z, hpz, h r' (List.mem_append_right _ ((hmem r').mpr (.inr hm)))]; grind
      have ih := clear_spec N n (c + 1) (done.map (less_ c (scaled c p0)) ++ [scaled c p0]) (l.map (less_ c (scaled c p0)))
        (by omega) (by simp [hd]) (by simp; omega)
        (by
          intro r hr'
          simp only [List.mem_append, List.mem_map, List.mem_singleton] at hr'
          rcases hr' with (⟨r', hm, rfl⟩ | rfl) | ⟨r', hm, rfl⟩
          · exact (less_row (rd r' hm) rp).1
          · exact rp
          · exact (less_row (rl r' hm) rp).1)
        (by
          intro i j hi hj
          by_cases hic : i < c
          · have hid : i < done.length := by omega
            have e : (done.map (less_ c (scaled c p0)) ++ [scaled c p0]).getD i [] = less_ c (scaled c p0) (done.getD i []) := by
              simp [List.getD_eq_getElem?_getD, List.getElem?_append, hid]
            rw [e, (less_row (rd _ (getD_mem hid)) rp).2.1 j (by omega)]
            by_cases hjc : j < c
            · rw [pj j hjc, hu i j hic hjc]; grind
            · have : j = c := by omega
              subst this
              rw [pc, if_neg (by omega)]; grind
          · have hic' : i = c := by omega
            have e : (done.map (less_ c (scaled c p0)) ++ [scaled c p0]).getD i [] = scaled c p0 := by
              simp [List.getD_eq_getElem?_getD, List.getElem?_append, hd, hic']
            rw [e]
            by_cases hjc : j < c
            · rw [pj j hjc, if_neg (by omega)]
            · have : j = c := by omega
              subst this
              rw [pc, if_pos hic'])
        (by
          intro r hr' j hj
          simp only [List.mem_map] at hr'
          obtain ⟨r', hm, rfl⟩ := hr'
          rw [(less_row (rl r' hm) rp).2.1 j (by omega)]
          by_cases hjc : j < c
          · rw [pj j hjc, h0 r' ((hmem r').mpr (.inr hm)) j hjc]; grind
          · have : j = c := by omega
            subst this
            rw [pc]; grind)
        (fun z hz hzz => thin z hz ((eqv z).mp hzz))
      refine ⟨ih.1, ih.2.1, ih.2.2.1, fun z => (ih.2.2.2 z).trans (eqv z)⟩
/-- **solve gives the one solution.** -/
theorem solve_spec {N : Nat} {m : List (List Q)} (hl : m.length = N) (hrow : ∀ r ∈ m, Row N r) (thin : Thin N m) :
    (solve N m).length = N ∧ AllOk (solve N m) ∧ ∀ z : Nat → Rat, z N = -1 → (Zeros m z ↔ ∀ i, i < N → z i = R ((solve N m).getD i zero)) := by
  have h := clear_spec N N 0 [] m (by omega) rfl hl (by simpa using hrow) (by omega) (by omega) (by simpa using thin)
  obtain ⟨h1, h2, h3, h4⟩ := h
  have el : ∀ i, (solve N m).getD i zero = ((clear N 0 [] m).getD i []).getLast?.getD zero := by
    intro i
    unfold solve
    simp only [List.getD_eq_getElem?_getD, List.getElem?_map]
    cases (clear N 0 [] m)[i]? <;> simp
  have last : ∀ r : List Q, Row N r → r.getLast?.getD zero = r.getD N zero := by
    intro r hr
    rw [List.getLast?_eq_getElem?, hr.len, List.getD_eq_getElem?_getD]; rfl
  refine ⟨by unfold solve; simpa using h1, ?_, ?_⟩
  · intro q hq
    unfold solve at hq
    obtain ⟨r, hr, rfl⟩ := List.mem_map.mp hq
    rw [last r (h2 r hr)]
    exact (h2 r hr).ok.getD N
  · intro z hz
    have vr : ∀ i, i < N → ev ((clear N 0 [] m).getD i []) z = z i - R ((solve N m).getD i zero) := by
      intro i hi
      have hm := getD_mem (l := clear N 0 [] m) (i := i) (d := []) (by omega)
      have hr := h2 _ hm
      have e : z = fun j => (if j < N then z j else 0) + (if j < N then 0 else z j) := by
        funext j; by_cases c : j < N <;> simp [c] <;> grind
      rw [e, ev_add, ev_single _ (fun j => if j < N then z j else 0) i (by rw [hr.len]; omega) (fun j hj ne => by
          by_cases c : j < N
          · rw [h3 i j (by omega) c, if_neg (by omega)]; grind
          · rw [if_neg c]; grind),
        ev_single _ (fun j => if j < N then 0 else z j) N (by rw [hr.len]; omega) (fun j hj ne => by
          have := hr.len
          rw [if_pos (by omega)]; grind)]
      rw [h3 i i (by omega) hi, if_pos rfl, if_pos hi, if_neg (by omega), hz, el i, last _ hr]
      simp only [hi, if_true]
      grind
    have h4' := h4 z
    simp only [List.nil_append] at h4'
    rw [← h4']
    constructor
    · intro h i hi
      have := h _ (getD_mem (l := clear N 0 [] m) (i := i) (d := []) (by omega))
      rw [vr i hi] at this
      grind
    · intro h r hr
      obtain ⟨i, hi, rfl⟩ := List.mem_iff_getElem.mp hr
      have e : (clear N 0 [] m).getD i [] = (clear N 0 [] m)[i] := by rw [List.getD_eq_getElem?_getD, List.getElem?_eq_getElem hi]; rfl
      rw [← e, vr i (by omega), h i (by omega)]
      grind
end By

/-! ByL: levels, and the rules that go by them. -/
namespace By
open Pn08
/-- a house as it can be -/
structure Wf (t : Task) : Prop where
  goal : ∀ s ∈ t.goal, s < t.states
  at_ : ∀ a ∈ t.acts, a.at_ < t.states
  outs : ∀ a ∈ t.acts, ∀ x ∈ a.outs, x.1 < t.states
  pos : ∀ a ∈ t.acts, ∀ x ∈ a.outs, 0 < x.2
  ne : ∀ a ∈ t.acts, a.outs ≠ []
  cost : ∀ a ∈ t.acts, 0 < a.cost
  many : t.acts.length ≤ 12
theorem mem_acts_ {t : Task} {s k : Nat} : k ∈ t.acts_ s ↔ k < t.acts.length ∧ (t.act k).at_ = s := by
  unfold Task.acts_
  simp [List.mem_filter]
theorem act_mem {t : Task} {k : Nat} (h : k < t.acts.length) : t.act k ∈ t.acts := getD_mem h
theorem done_iff {t : Task} {s : Nat} : t.done s = true ↔ s ∈ t.goal := by
  unfold Task.done; simp
/-- within so many steps, by good acts -/
def U (t : Task) (good : Nat → Nat → Bool) : Nat → Nat → Prop
  | 0, s => t.done s = true
  | n + 1, s => U t good n s ∨ ∃ k ∈ t.acts_ s, good s k = true ∧ ∃ x ∈ (t.act k).outs, U t good n x.1
theorem U.lt {t : Task} (w : Wf t) {good : Nat → Nat → Bool} : ∀ {n s : Nat}, U t good n s → s < t.states
  | 0, s, h => w.goal s (done_iff.mp h)
  | n + 1, s, h => by
    rcases h with h | ⟨k, hk, _⟩
    · exact U.lt w h
    · have := mem_acts_.mp hk
      rw [← this.2]; exact w.at_ _ (act_mem this.1)
theorem U.mono {t : Task} {good : Nat → Nat → Bool} {n m s : Nat} (h : U t good n s) (l : n ≤ m) : U t good m s := by
  induction l with
  | refl => exact h
  | step _ ih => exact .inl ih
theorem filter_lt {α : Type} {p q : α → Bool} : ∀ {l : List α}, (∀ x ∈ l, q x = true → p x = true) → (∃ x ∈ l, p x = true ∧ q x = false) →
    (l.filter q).length < (l.filter p).length
  | [], _, h => by obtain ⟨x, hx, _⟩ := h; simp at hx
  | a :: l, h1, h2 => by
    have le : (l.filter q).length ≤ (l.filter p).length := by
      have : ∀ (l : List α), (∀ x ∈ l, q x = true → p x = true) → (l.filter q).length ≤ (l.filter p).length := by
        intro l
        induction l with
        | nil => simp
        | cons b l ih =>
          intro h
          have := ih (fun x hx => h x (by simp [hx]))
          have hb := h b (by simp)
          by_cases e : q b = true
          · simp [e, hb e]; omega
          · by_cases e' : p b = true
            · simp [e, e']; omega
            · simp [e, e']; omega
      exact this l (fun x hx => h1 x (by simp [hx]))
    have ha := h1 a (by simp)
    obtain ⟨x, hx, hp, hq⟩ := h2
    rcases List.mem_cons.mp hx with rfl | hx
    · simp [hp, hq]; omega
    · have := filter_lt (l := l) (fun x hx => h1 x (by simp [hx])) ⟨x, hx, hp, hq⟩
      by_cases e : q a = true
      · simp [e, ha e]; omega
      · by_cases e' : p a = true
        · simp [e, e']; omega
        · simp [e, e']; omega
/-- levels told by their first ones -/
def Lv (t : Task) (good : Nat → Nat → Bool) (l : List (List Nat)) : Prop := 0 < l.length ∧ ∀ i, i < l.length → ∀ s, s ∈ (l.take (i + 1)).flatten ↔ U t good i s
theorem Lv.all {t : Task} {good : Nat → Nat → Bool} {l : List (List Nat)} (h : Lv t good l) (s : Nat) : s ∈ l.flatten ↔ U t good (l.length - 1) s := by
  have := h.2 (l.length - 1) (by have := h.1; omega) s
  have e : l.length - 1 + 1 = l.length := by have := h.1; omega
  rw [e, List.take_length] at this
  exact this
theorem new_iff {t : Task} (w : Wf t) {good : Nat → Nat → Bool} {l : List (List Nat)} (h : Lv t good l) (s : Nat) :
    s ∈ ((List.range t.states).filter fun s => !l.flatten.contains s && (t.acts_ s).any fun k => good s k && (t.act k).outs.any fun x => l.flatten.contains x.1)
    ↔ ¬ U t good (l.length - 1) s ∧ U t good (l.length - 1 + 1) s := by
  simp only [List.mem_filter, List.mem_range, Bool.and_eq_true, Bool.not_eq_true', List.any_eq_true, List.contains_iff_mem, h.all]
  constructor
  · rintro ⟨_, hn, k, hk, hg, x, hx, hu⟩
    refine ⟨fun c => ?_, .inr ⟨k, hk, hg, x, hx, hu⟩⟩
    have := (h.all s).mpr c
    rw [← List.contains_iff_mem] at this
    rw [this] at hn
    cases hn
  · rintro ⟨hn, hu⟩
    refine ⟨hu.lt w, ?_, ?_⟩
    · have : ¬ s ∈ l.flatten := fun c => hn ((h.all s).mp c)
      rw [← List.contains_iff_mem] at this
      simpa using this
    · rcases hu with hu | ⟨k, hk, hg, x, hx, hu⟩
      · exact absurd hu hn
      · exact ⟨k, hk, hg, x, hx, hu⟩
theorem U.stop {t : Task} {good : Nat → Nat → Bool} {n : Nat} (h : ∀ s, U t good (n + 1) s → U t good n s) : ∀ m s, U t good m s → U t good n s := by
  intro m
  induction m with
  | zero => intro s hs; exact U.mono hs (Nat.zero_le n)
  | succ m ih =>
    intro s hs
    rcases hs with hs | ⟨k, hk, hg, x, hx, hu⟩
    · exact ih s hs
    · exact h s (.inr ⟨k, hk, hg, x, hx, ih _ hu⟩)
theorem levels_spec {t : Task} (w : Wf t) {good : Nat → Nat → Bool} : ∀ (n : Nat) (l : List (List Nat)), Lv t good l →
    ((List.range t.states).filter fun s => !l.flatten.contains s).length ≤ n →
    Lv t good (levels t good n l) ∧ ∀ m s, U t good m s → s ∈ (levels t good n l).flatten
  | 0, l, h, hr => by
    unfold levels
    refine ⟨h, fun m s hu => ?_⟩
    have e := List.length_eq_zero_iff.mp (Nat.le_zero.mp hr)
    have := List.filter_eq_nil_iff.mp e s (List.mem_range.mpr (hu.lt w))
    simpa using this
  | n + 1, l, h, hr => by
    unfold levels
    simp only
    have hnew := new_iff w h
    generalize hN : ((List.range t.states).filter fun s => !l.flatten.contains s && (t.acts_ s).any fun k => good s k && (t.act k).outs.any fun x => l.flatten.contains x.1) = new at *
    by_cases e : new.isEmpty = true
    · rw [if_pos e]
      refine ⟨h, fun m s hu => (h.all s).mpr ?_⟩
      refine U.stop (fun s hs => Classical.byContradiction fun c => ?_) m s hu
      have := (hnew s).mpr ⟨c, hs⟩
      rw [List.isEmpty_iff.mp e] at this
      simp at this
    · rw [if_neg e]
      refine levels_spec w n (l ++ [new]) ⟨by simp, ?_⟩ ?_
      · intro i hi s
        simp only [List.length_append, List.length_cons, List.length_nil] at hi
        by_cases c : i < l.length
        · rw [List.take_append_of_le_length (by omega)]
          exact h.2 i c s
        · have hi' : i = l.length := by omega
          rw [hi', List.take_of_length_le (by simp), List.flatten_append]
          simp only [List.flatten_cons, List.flatten_nil, List.append_nil, List.mem_append, hnew s, h.all s]
          have e1 : l.length - 1 + 1 = l.length := by have := h.1; omega
          rw [e1]
          constructor
          · rintro (hu | hu)
            · exact hu.mono (by omega)
            · exact hu.2
          · intro hu
            by_cases c : U t good (l.length - 1) s
            · exact .inl c
            · exact .inr ⟨c, hu⟩
      · have : ((List.range t.states).filter fun s => !(l ++ [new]).flatten.contains s).length < ((List.range t.states).filter fun s => !l.flatten.contains s).length := by
          refine filter_lt ?_ ?_
          · intro s _ hs
            simp only [Bool.not_eq_true', ← Bool.not_eq_true, List.contains_iff_mem, List.flatten_append, List.mem_append, not_or] at hs ⊢
            exact hs.1
          · cases hne : new with
            | nil => simp [hne] at e
            | cons a r =>
              have ha : a ∈ new := by rw [hne]; simp
              have hu := (hnew a).mp ha
              refine ⟨a, List.mem_range.mpr (hu.2.lt w), ?_, ?_⟩
              · have : ¬ a ∈ l.flatten := fun c => hu.1 ((h.all a).mp c)
                rw [← List.contains_iff_mem] at this
                simpa using this
              · simp [hne]
        omega
theorem levelsOf_spec {t : Task} (w : Wf t) (good : Nat → Nat → Bool) :
    Lv t good (levelsOf t good) ∧ ∀ m s, U t good m s → s ∈ (levelsOf t good).flatten := by
  unfold levelsOf
  refine levels_spec w t.states _ ⟨by simp, ?_⟩ ?_
  · intro i hi s
    simp only [List.length_cons, List.length_nil] at hi
    have : i = 0 := by omega
    subst this
    simp only [List.take_succ_cons, List.take_zero, List.flatten_cons, List.flatten_nil, List.append_nil, List.mem_filter, List.mem_range, U]
    exact ⟨fun h => h.2, fun h => ⟨w.goal s (done_iff.mp h), h⟩⟩
  · refine Nat.le_trans (List.length_filter_le _ _) (by simp)
/-- one may come there by good acts -/
def Cl (t : Task) (good : Nat → Nat → Bool) (s : Nat) : Prop := ∃ n, U t good n s
theorem flat_iff {t : Task} (w : Wf t) {good : Nat → Nat → Bool} {s : Nat} : s ∈ (levelsOf t good).flatten ↔ Cl t good s := by
  have h := levelsOf_spec w good
  exact ⟨fun hs => ⟨_, (h.1.all s).mp hs⟩, fun ⟨n, hn⟩ => h.2 n s hn⟩
theorem mem_take_flat {l : List (List Nat)} {i s : Nat} : s ∈ (l.take (i + 1)).flatten ↔ ∃ j, j ≤ i ∧ s ∈ l.getD j [] := by
  constructor
  · intro h
    obtain ⟨r, hr, hs⟩ := List.mem_flatten.mp h
    obtain ⟨j, hj, rfl⟩ := List.mem_iff_getElem.mp hr
    simp only [List.length_take] at hj
    refine ⟨j, by omega, ?_⟩
    rw [List.getElem_take] at hs
    rw [List.getD_eq_getElem?_getD, List.getElem?_eq_getElem (by omega)]
    exact hs
  · rintro ⟨j, hj, hs⟩
    by_cases c : j < l.length
    · rw [List.getD_eq_getElem?_getD, List.getElem?_eq_getElem c] at hs
      refine List.mem_flatten.mpr ⟨l[j], ?_, hs⟩
      exact List.mem_take_iff_getElem.mpr ⟨j, by omega, rfl⟩
    · rw [List.getD_eq_getElem?_getD, List.getElem?_eq_none (by omega)] at hs
      simp at hs
/-- the least number of steps -/
def Least (t : Task) (good : Nat → Nat → Bool) (s n : Nat) : Prop := U t good n s ∧ ∀ m, m < n → ¬ U t good m s
theorem level_iff {t : Task} (w : Wf t) {good : Nat → Nat → Bool} {s n : Nat} : level (levelsOf t good) s = some n ↔ Least t good s n := by
  obtain ⟨⟨h0, h1⟩, h2⟩ := levelsOf_spec w good
  have hu : ∀ i, U t good i s ↔ ∃ j, j ≤ i ∧ s ∈ (levelsOf t good).getD j [] := by
    intro i
    by_cases c : i < (levelsOf t good).length
    · rw [← h1 i c s, mem_take_flat]
    · constructor
      · intro hu
        have hf := h2 i s hu
        have e : (levelsOf t good).length - 1 + 1 = (levelsOf t good).length := by omega
        rw [← List.take_length (l := levelsOf t good), ← e, mem_take_flat] at hf
        obtain ⟨j, hj, hs⟩ := hf
        exact ⟨j, by omega, hs⟩
      · rintro ⟨j, hj, hs⟩
        have hj' : j < (levelsOf t good).length := by
          refine Nat.lt_of_not_le fun c => ?_
          rw [List.getD_eq_getElem?_getD, List.getElem?_eq_none c] at hs
          simp at hs
        exact U.mono ((h1 j hj' s).mp (mem_take_flat.mpr ⟨j, Nat.le_refl j, hs⟩)) hj
  unfold level Least
  rw [List.find?_range_eq_some]
  simp only [List.contains_iff_mem, List.mem_range, Bool.not_eq_true', ← Bool.not_eq_true]
  constructor
  · rintro ⟨ha, hb, hc⟩
    refine ⟨(hu n).mpr ⟨n, Nat.le_refl n, ha⟩, fun m hm c => ?_⟩
    obtain ⟨j, hj, hs⟩ := (hu m).mp c
    exact hc j (by omega) hs
  · rintro ⟨ha, hb⟩
    obtain ⟨j, hj, hs⟩ := (hu n).mp ha
    have : j = n := by
      refine Classical.byContradiction fun c => hb j (by omega) ((hu j).mpr ⟨j, Nat.le_refl j, hs⟩)
    subst this
    refine ⟨hs, ?_, fun m hm c => hb m hm ((hu m).mpr ⟨m, Nat.le_refl m, c⟩)⟩
    refine Nat.lt_of_not_le fun c => ?_
    rw [List.getD_eq_getElem?_getD, List.getElem?_eq_none c] at hs
    simp at hs
theorem least_of {t : Task} {good : Nat → Nat → Bool} {s n : Nat} (h : U t good n s) : ∃ m, m ≤ n ∧ Least t good s m := by
  induction n with
  | zero => exact ⟨0, Nat.le_refl 0, h, fun m hm => by omega⟩
  | succ n ih =>
    by_cases c : U t good n s
    · obtain ⟨m, hm, hl⟩ := ih c
      exact ⟨m, by omega, hl⟩
    · exact ⟨n + 1, Nat.le_refl _, h, fun m hm hu => c (hu.mono (by omega))⟩
theorem Least.uniq {t : Task} {good : Nat → Nat → Bool} {s n m : Nat} (h : Least t good s n) (h' : Least t good s m) : n = m := by
  rcases Nat.lt_trichotomy n m with c | c | c
  · exact absurd h.1 (h'.2 n c)
  · exact c
  · exact absurd h'.1 (h.2 m c)
theorem told_map {n : Nat} {g : Nat → Option Nat} {s : Nat} : told ((List.range n).map g) s = if s < n then g s else none := by
  unfold told
  rw [List.getD_eq_getElem?_getD, List.getElem?_map]
  by_cases c : s < n
  · rw [List.getElem?_eq_getElem (by simpa using c)]; simp [c]
  · rw [List.getElem?_eq_none (by simpa using c)]; simp [c]
/-- the test of nearer, by levels -/
theorem near_iff {t : Task} (w : Wf t) {good : Nat → Nat → Bool} {n u : Nat} :
    (match level (levelsOf t good) u with | some m => decide (m ≤ n) | none => false) = true ↔ U t good n u := by
  constructor
  · intro h
    split at h
    · rename_i m hm
      exact ((level_iff w).mp hm).1.mono (by simpa using h)
    · cases h
  · intro h
    obtain ⟨m, hm, hl⟩ := least_of h
    rw [(level_iff w).mpr hl]
    simpa using hm
/-- **A rule that goes by levels**: what it tells. -/
theorem ruleBy_some {t : Task} (w : Wf t) {good : Nat → Nat → Bool} {s k : Nat} (h : told (ruleBy t good) s = some k) :
    s < t.states ∧ t.done s = false ∧ k ∈ t.acts_ s ∧ good s k = true ∧ ∃ n, Least t good s (n + 1) ∧ (∃ x ∈ (t.act k).outs, U t good n x.1) ∧
      ∀ j ∈ t.acts_ s, good s j = true → (∃ x ∈ (t.act j).outs, U t good n x.1) → k ≤ j := by
  unfold ruleBy at h
  rw [told_map] at h
  by_cases c : s < t.states
  · rw [if_pos c] at h
    by_cases d : t.done s = true
    · rw [if_pos d] at h; cases h
    · rw [if_neg d] at h
      unfold nearer at h
      split at h
      · cases h
      · cases h
      · rename_i n hn
        have hl := (level_iff w).mp hn
        have hp := List.find?_some h
        have hm := List.mem_of_find?_eq_some h
        simp only [Bool.and_eq_true, List.any_eq_true] at hp
        obtain ⟨x, hx, hxu⟩ := hp.2
        refine ⟨c, by simpa using d, hm, hp.1, n, hl, ⟨x, hx, (near_iff w).mp hxu⟩, fun j hj hg hx => ?_⟩
        refine Classical.byContradiction fun lt => ?_
        rw [List.find?_eq_some_iff_append] at h
        obtain ⟨_, as, bs, e, hb⟩ := h
        have srt : (t.acts_ s).Pairwise (· < ·) := by
          unfold Task.acts_
          exact List.Pairwise.filter _ List.pairwise_lt_range
        rw [e] at srt hj
        rcases List.mem_append.mp hj with hj | hj
        · have := hb j hj
          simp only [Bool.not_eq_true', ← Bool.not_eq_true, Bool.and_eq_true, List.any_eq_true] at this
          obtain ⟨x, hx, hxu⟩ := hx
          exact this ⟨hg, x, hx, (near_iff w).mpr hxu⟩
        · rcases List.mem_cons.mp hj with rfl | hj
          · omega
          · have := List.rel_of_pairwise_cons (List.pairwise_append.mp srt).2.1 hj
            omega
  · rw [if_neg c] at h; cases h
theorem ruleBy_none {t : Task} (w : Wf t) {good : Nat → Nat → Bool} {s : Nat} (h : told (ruleBy t good) s = none) : t.done s = true ∨ ¬ Cl t good s := by
  refine Classical.byContradiction fun c => ?_
  simp only [not_or, Classical.not_not] at c
  obtain ⟨hd, n, hn⟩ := c
  obtain ⟨m, _, hl⟩ := least_of hn
  have hs := hl.1.lt w
  cases m with
  | zero => exact hd hl.1
  | succ m =>
    unfold ruleBy at h
    rw [told_map, if_pos hs, if_neg hd] at h
    unfold nearer at h
    rw [(level_iff w).mpr hl] at h
    simp only at h
    rw [List.find?_eq_none] at h
    rcases hl.1 with hu | ⟨k, hk, hg, hx⟩
    · exact hl.2 m (by omega) hu
    · have := h k hk
      simp only [Bool.and_eq_true, List.any_eq_true] at this
      obtain ⟨x, hx, hxu⟩ := hx
      exact this ⟨hg, x, hx, (near_iff w).mpr hxu⟩
/-- what a rule does -/
def fo (t : Task) (f : Rule) (s : Nat) : Outs := match told f s with
  | some k => (t.act k).outs
  | none => []
def Goal (t : Task) (s : Nat) : Prop := t.done s = true
theorem ruleBy_hits {t : Task} (w : Wf t) {good : Nat → Nat → Bool} : ∀ (n s : Nat), U t good n s → Hits (fo t (ruleBy t good)) (Goal t) s := by
  intro n
  induction n with
  | zero => intro s h; exact .here h
  | succ n ih =>
    intro s h
    by_cases d : t.done s = true
    · exact .here d
    · cases hk : told (ruleBy t good) s with
      | none =>
        rcases ruleBy_none w hk with c | c
        · exact absurd c d
        · exact absurd ⟨_, h⟩ c
      | some k =>
        obtain ⟨_, _, _, _, m, hl, ⟨x, hx, hu⟩, _⟩ := ruleBy_some w hk
        have hm : m ≤ n := by
          refine Nat.le_of_not_lt fun c => ?_
          exact hl.2 (n + 1) (by omega) h
        refine .step (x := x) ?_ (ih _ (hu.mono hm))
        unfold fo; rw [hk]; exact hx
/-- each act told is one of its state's -/
def Valid (t : Task) (f : Rule) : Prop := ∀ s k, told f s = some k → k ∈ t.acts_ s ∧ t.done s = false
theorem open_iff {t : Task} (w : Wf t) {f : Rule} (v : Valid t f) {s : Nat} : s ∈ open_ t f ↔ Hits (fo t f) (Goal t) s := by
  unfold open_
  rw [flat_iff w]
  constructor
  · rintro ⟨n, hn⟩
    induction n generalizing s with
    | zero => exact .here hn
    | succ n ih =>
      rcases hn with hn | ⟨k, hk, hg, x, hx, hu⟩
      · exact ih hn
      · refine .step (x := x) ?_ (ih hu)
        unfold fo
        rw [beq_iff_eq.mp hg]
        exact hx
  · intro h
    induction h with
    | here h => exact ⟨0, h⟩
    | @step s x hx _ ih =>
      obtain ⟨n, hn⟩ := ih
      unfold fo at hx
      split at hx
      · rename_i k hk
        exact ⟨n + 1, .inr ⟨k, (v s k hk).1, by simpa using hk, x, hx, hn⟩⟩
      · simp at hx
end By

/-! ByC: the equations of a rule, and their solution. -/
namespace By
open Pn08
def rsum : List Q → Rat
  | [] => 0
  | q :: l => R q + rsum l
theorem fold_plus : ∀ (l : List Q) (a : Q), Ok a → AllOk l → R (l.foldl Q.plus a) = R a + rsum l ∧ Ok (l.foldl Q.plus a)
  | [], a, ha, _ => ⟨by simp only [List.foldl_nil, rsum]; grind, ha⟩
  | q :: l, a, ha, h => by
    have hq : Ok q := h q (by simp)
    have p := R_plus ha.1 hq.1
    have ih := fold_plus l (a.plus q) p.2 (fun x hx => h x (by simp [hx]))
    refine ⟨?_, ih.2⟩
    rw [List.foldl_cons, ih.1, p.1]; simp only [rsum]; grind
theorem R_total {l : List Q} (h : AllOk l) : R (total l) = rsum l ∧ Ok (total l) := by
  have := fold_plus l zero ok_zero h
  rw [R_zero] at this
  unfold total
  exact ⟨this.1.trans (by grind), this.2⟩
theorem whole_cast (a : Act) : ((a.whole : Nat) : Rat) = whole a.outs := by
  have : ∀ (o : Outs) (n : Nat), ((o.foldl (fun n x => n + x.2) n : Nat) : Rat) = n + whole o := by
    intro o
    induction o with
    | nil => intro n; simp [whole, wsum]; grind
    | cons x o ih =>
      intro n
      rw [List.foldl_cons, ih]
      simp only [whole, wsum, Rat.natCast_add]; grind
  unfold Act.whole
  rw [this]; grind
structure ActOk (a : Act) : Prop where
  pos : ∀ x ∈ a.outs, 0 < x.2
  ne : a.outs ≠ []
theorem Wf.act {t : Task} (w : Wf t) {k : Nat} (h : k < t.acts.length) : ActOk (t.act k) := ⟨w.pos _ (act_mem h), w.ne _ (act_mem h)⟩
theorem ActOk.whole_pos {a : Act} (h : ActOk a) : 0 < whole a.outs := By.whole_pos h.pos h.ne
theorem ActOk.whole_posN {a : Act} (h : ActOk a) : 0 < a.whole := by
  have := h.whole_pos
  rw [← whole_cast] at this
  exact Rat.natCast_pos.mp this
theorem frac {x W : Nat} (h : 0 < W) : R (Q.low ⟨(x : Int), W⟩) = (x : Rat) / (W : Rat) ∧ Ok (Q.low ⟨(x : Int), W⟩) := by
  have := R_low (q := ⟨(x : Int), W⟩) h
  refine ⟨this.1.trans ?_, this.2⟩
  unfold R; simp only [Rat.intCast_natCast]
theorem some_sum {W : Nat} (h : 0 < W) (p : Nat → Bool) : ∀ (o : Outs),
    AllOk ((((o.map fun x => (x.1, Q.low ⟨(x.2 : Int), W⟩)).filter fun y => p y.1)).map fun y => y.2) ∧
    rsum ((((o.map fun x => (x.1, Q.low ⟨(x.2 : Int), W⟩)).filter fun y => p y.1)).map fun y => y.2) = wsum o (fun v => if p v = true then 1 else 0) / (W : Rat)
  | [] => ⟨by intro q hq; simp at hq, by simp [rsum, wsum]; grind⟩
  | x :: o => by
    have ih := some_sum h p o
    have f := frac (x := x.2) h
    by_cases c : p x.1 = true
    · constructor
      · intro q hq
        simp only [List.map_cons, List.filter_cons, c, if_true, List.mem_cons] at hq
        rcases hq with rfl | hq
        · exact f.2
        · exact ih.1 q hq
      · simp only [List.map_cons, List.filter_cons, c, if_true, rsum, wsum, ih.2, f.1]; grind
    · constructor
      · intro q hq
        simp only [List.map_cons, List.filter_cons, c, if_false] at hq
        exact ih.1 q hq
      · have c' : p x.1 = false := by simpa using c
        simp only [List.map_cons, List.filter_cons, c', Bool.false_eq_true, if_false, wsum]
        rw [ih.2]; grind
theorem mean_sum {W : Nat} (h : 0 < W) (e : Nat → Q) (he : ∀ s, Ok (e s)) : ∀ (o : Outs),
    AllOk ((o.map fun x => (x.1, Q.low ⟨(x.2 : Int), W⟩)).map fun x => x.2.times (e x.1)) ∧
    rsum ((o.map fun x => (x.1, Q.low ⟨(x.2 : Int), W⟩)).map fun x => x.2.times (e x.1)) = wsum o (fun v => R (e v)) / (W : Rat)
  | [] => ⟨by intro q hq; simp at hq, by simp [rsum, wsum]; grind⟩
  | x :: o => by
    have ih := mean_sum h e he o
    have f := frac (x := x.2) h
    have g := R_times f.2.1 (he x.1).1
    constructor
    · intro q hq
      simp only [List.map_cons, List.mem_cons] at hq
      rcases hq with rfl | hq
      · exact g.2
      · exact ih.1 q hq
    · simp only [List.map_cons, rsum, wsum, ih.2, f.1, g.1]; grind
/-- an act's chance of some states -/
theorem R_some {a : Act} (h : ActOk a) (p : Nat → Bool) : R (total ((a.chances.filter fun y => p y.1).map fun y => y.2)) = wsum a.outs (fun v => if p v = true then 1 else 0) / whole a.outs ∧
    Ok (total ((a.chances.filter fun y => p y.1).map fun y => y.2)) := by
  unfold Act.chances
  have x := some_sum h.whole_posN p a.outs
  have y := R_total x.1
  exact ⟨y.1.trans (x.2.trans (by rw [whole_cast])), y.2⟩
theorem R_mean {a : Act} (h : ActOk a) (e : Nat → Q) (he : ∀ s, Ok (e s)) : R (total (a.chances.map fun x => x.2.times (e x.1))) = wsum a.outs (fun v => R (e v)) / whole a.outs ∧
    Ok (total (a.chances.map fun x => x.2.times (e x.1))) := by
  unfold Act.chances
  have x := mean_sum h.whole_posN e he a.outs
  have y := R_total x.1
  exact ⟨y.1.trans (x.2.trans (by rw [whole_cast])), y.2⟩
def sumL : List Nat → (Nat → Rat) → Rat
  | [], _ => 0
  | a :: l, g => g a + sumL l g
theorem sumL_zero : ∀ (l : List Nat) (g : Nat → Rat), (∀ u ∈ l, g u = 0) → sumL l g = 0
  | [], _, _ => rfl
  | a :: l, g, h => by
    simp only [sumL]
    rw [h a (by simp), sumL_zero l g (fun u hu => h u (by simp [hu]))]; grind
theorem sumL_add (l : List Nat) (g h : Nat → Rat) : sumL l (fun u => g u + h u) = sumL l g + sumL l h := by
  induction l with
  | nil => simp only [sumL]; grind
  | cons a l ih => simp only [sumL, ih]; grind
theorem sumL_sub (l : List Nat) (g h : Nat → Rat) : sumL l (fun u => g u - h u) = sumL l g - sumL l h := by
  induction l with
  | nil => simp only [sumL]; grind
  | cons a l ih => simp only [sumL, ih]; grind
theorem sumL_smul (l : List Nat) (c : Rat) (g : Nat → Rat) : sumL l (fun u => c * g u) = c * sumL l g := by
  induction l with
  | nil => simp only [sumL]; grind
  | cons a l ih => simp only [sumL, ih]; grind
theorem sumL_congr {l : List Nat} {g h : Nat → Rat} (e : ∀ u ∈ l, g u = h u) : sumL l g = sumL l h := by
  induction l with
  | nil => rfl
  | cons a l ih => simp only [sumL]; rw [e a (by simp), ih (fun u hu => e u (by simp [hu]))]
theorem sumL_at : ∀ {l : List Nat} {y : Nat → Rat} {a : Nat}, l.Nodup → (∀ u, u ∉ l → y u = 0) → sumL l (fun u => (if a = u then 1 else 0) * y u) = y a
  | [], y, a, _, h => (h a (by simp)).symm
  | b :: l, y, a, nd, h => by
    rw [List.nodup_cons] at nd
    simp only [sumL]
    by_cases c : a = b
    · subst c
      rw [sumL_zero l _ (fun u hu => by
        have : a ≠ u := fun e => nd.1 (e ▸ hu)
        rw [if_neg this]; grind)]
      simp; grind
    · rw [if_neg c]
      by_cases m : a ∈ l
      · have := sumL_at (l := l) (y := fun u => if u ∈ l then y u else 0) (a := a) nd.2 (fun u hu => by simp [hu])
        rw [if_pos m] at this
        rw [← this]
        have e : sumL l (fun u => (if a = u then 1 else 0) * y u) = sumL l (fun u => (if a = u then 1 else 0) * (if u ∈ l then y u else 0)) := sumL_congr (fun u hu => by rw [if_pos hu])
        rw [e]; grind
      · rw [h a (by simp [c, m]), sumL_zero l _ (fun u hu => by
          have : a ≠ u := fun e => m (e ▸ hu)
          rw [if_neg this]; grind)]; grind
theorem sumL_wsum {l : List Nat} {y : Nat → Rat} (nd : l.Nodup) (h : ∀ u, u ∉ l → y u = 0) : ∀ (o : Outs),
    sumL l (fun u => wsum o (fun v => if v = u then 1 else 0) * y u) = wsum o y
  | [] => by simp only [wsum]; exact sumL_zero _ _ (fun u _ => by grind)
  | x :: o => by
    simp only [wsum]
    rw [← sumL_wsum nd h o]
    have e : (fun u => ((x.2 : Rat) * (if x.1 = u then 1 else 0) + wsum o (fun v => if v = u then 1 else 0)) * y u) =
      fun u => (x.2 : Rat) * ((if x.1 = u then 1 else 0) * y u) + wsum o (fun v => if v = u then 1 else 0) * y u := by
      funext u; grind
    rw [e, sumL_add, sumL_smul, sumL_at nd h]
theorem ev_map (h : Nat → Q) (b : Q) (y : Nat → Rat) : ∀ (o : List Nat) (z : Nat → Rat), (∀ i (hi : i < o.length), y o[i] = z i) →
    ev (o.map h ++ [b]) z = sumL o (fun u => R (h u) * y u) + R b * z o.length
  | [], z, _ => by simp [ev, sumL]; grind
  | a :: o, z, hy => by
    have ih := ev_map h b y o (fun j => z (j + 1)) (fun i hi => hy (i + 1) (by simpa using hi))
    have h0 := hy 0 (by simp)
    simp only [List.getElem_cons_zero] at h0
    simp only [List.map_cons, List.cons_append, ev, sumL, List.length_cons, ih, h0]
    grind
/-- values of the unknowns, 0 elsewhere -/
def pick (o : List Nat) (x : Nat → Rat) (u : Nat) : Rat := match o.idxOf? u with
  | some i => x i
  | none => 0
theorem pick_out {o : List Nat} {x : Nat → Rat} {u : Nat} (h : u ∉ o) : pick o x u = 0 := by
  unfold pick; rw [List.idxOf?_eq_none_iff.mpr h]
theorem idx_at {o : List Nat} (nd : o.Nodup) {i : Nat} (hi : i < o.length) : o.idxOf? o[i] = some i := by
  rw [List.idxOf?_eq_some_iff]
  refine ⟨hi, rfl, fun j hj e => ?_⟩
  have := (List.getElem_inj nd).mp e
  omega
theorem pick_at {o : List Nat} (nd : o.Nodup) {x : Nat → Rat} {i : Nat} (hi : i < o.length) : pick o x o[i] = x i := by
  unfold pick; rw [idx_at nd hi]
/-- **The equations of a rule and what solves them.** -/
theorem sys_solve (o : List Nat) (nd : o.Nodup) (F : Nat → Outs) (pos : ∀ s ∈ o, ∀ x ∈ F s, 0 < x.2) (ne : ∀ s ∈ o, F s ≠ [])
    (hits : ∀ s ∈ o, Hits F (fun u => u ∉ o) s) (P : Nat → Nat → Q) (b : Nat → Q)
    (hP : ∀ s ∈ o, ∀ u, Ok (P s u) ∧ R (P s u) = wsum (F s) (fun v => if v = u then 1 else 0) / whole (F s)) (hb : ∀ s ∈ o, Ok (b s))
    (x : List Q) (hx : x = solve o.length (o.map fun s => (o.map fun u => (if u = s then one else zero).minus (P s u)) ++ [b s])) :
    x.length = o.length ∧ AllOk x ∧ ∀ s ∈ o, pick o (fun i => R (x.getD i zero)) s * whole (F s) = wsum (F s) (pick o (fun i => R (x.getD i zero))) + R (b s) * whole (F s) := by
  have wp : ∀ s ∈ o, 0 < whole (F s) := fun s hs => whole_pos (pos s hs) (ne s hs)
  have hd : ∀ u s : Nat, Ok (if u = s then one else zero) := fun u s => by by_cases c : u = s <;> simp only [c, if_true, if_false] <;> first | exact ok_one | exact ok_zero
  have hdv : ∀ u s : Nat, R (if u = s then one else zero) = if s = u then 1 else 0 := fun u s => by
    by_cases c : u = s
    · simp [c, R_one]
    · have c' : ¬ s = u := fun e => c e.symm
      simp [c, c', R_zero]
  have row : ∀ s ∈ o, ∀ z : Nat → Rat, ev ((o.map fun u => (if u = s then one else zero).minus (P s u)) ++ [b s]) z
      = pick o z s - wsum (F s) (pick o z) / whole (F s) + R (b s) * z o.length := by
    intro s hs z
    rw [ev_map _ _ (pick o z) o z (fun i hi => pick_at nd hi)]
    have e : sumL o (fun u => R ((if u = s then one else zero).minus (P s u)) * pick o z u)
      = sumL o (fun u => (if s = u then 1 else 0) * pick o z u - (whole (F s))⁻¹ * (wsum (F s) (fun v => if v = u then 1 else 0) * pick o z u)) := by
      refine sumL_congr fun u _ => ?_
      rw [(R_minus (hd u s).1 (hP s hs u).1.1).1, hdv, (hP s hs u).2]; grind
    rw [e, sumL_sub, sumL_smul, sumL_at nd (fun u hu => pick_out hu), sumL_wsum nd (fun u hu => pick_out hu)]
    grind
  have rows : ∀ r ∈ (o.map fun s => (o.map fun u => (if u = s then one else zero).minus (P s u)) ++ [b s]), Row o.length r := by
    intro r hr
    obtain ⟨s, hs, rfl⟩ := List.mem_map.mp hr
    refine ⟨?_, by simp⟩
    intro q hq
    rcases List.mem_append.mp hq with hq | hq
    · obtain ⟨u, _, rfl⟩ := List.mem_map.mp hq
      exact (R_minus (hd u s).1 (hP s hs u).1.1).2
    · rw [List.mem_singleton.mp hq]; exact hb s hs
  have zs : ∀ z, Zeros (o.map fun s => (o.map fun u => (if u = s then one else zero).minus (P s u)) ++ [b s]) z ↔
      ∀ s ∈ o, pick o z s - wsum (F s) (pick o z) / whole (F s) + R (b s) * z o.length = 0 := by
    intro z
    constructor
    · intro h s hs
      rw [← row s hs z]
      exact h _ (List.mem_map.mpr ⟨s, hs, rfl⟩)
    · intro h r hr
      obtain ⟨s, hs, rfl⟩ := List.mem_map.mp hr
      rw [row s hs z]; exact h s hs
  have thin : Thin o.length (o.map fun s => (o.map fun u => (if u = s then one else zero).minus (P s u)) ++ [b s]) := by
    intro z hz h
    rw [zs] at h
    have eqn : ∀ s ∈ o, pick o z s * whole (F s) = wsum (F s) (pick o z) := by
      intro s hs
      have h1 := h s hs
      have h2 := wp s hs
      rw [hz] at h1
      have : pick o z s = wsum (F s) (pick o z) / whole (F s) := by grind
      rw [this]; grind
    have up := max_le o F pos (pick o z) (fun s hs => by rw [wsum_const, eqn s hs]; grind) (fun s _ x _ => by
      by_cases c : x.1 ∈ o
      · exact .inl c
      · exact .inr (by rw [pick_out c]; grind)) hits
    have dn := max_le o F pos (fun s => - pick o z s) (fun s hs => by
      rw [wsum_const, wsum_neg]; have := eqn s hs; grind) (fun s _ x _ => by
      by_cases c : x.1 ∈ o
      · exact .inl c
      · exact .inr (by rw [pick_out c]; grind)) hits
    intro j hj
    have m : o[j] ∈ o := List.getElem_mem hj
    have a := up _ m
    have b := dn _ m
    rw [pick_at nd hj] at a b
    grind
  have sol := solve_spec (m := o.map fun s => (o.map fun u => (if u = s then one else zero).minus (P s u)) ++ [b s]) (N := o.length) (by simp) rows thin
  rw [← hx] at sol
  refine ⟨sol.1, sol.2.1, ?_⟩
  have := (sol.2.2 (fun i => if i < o.length then R (x.getD i zero) else -1) (by simp)).mpr (fun i hi => by rw [if_pos hi])
  rw [zs] at this
  intro s hs
  have h1 := this s hs
  have h2 := wp s hs
  have e : pick o (fun i => if i < o.length then R (x.getD i zero) else -1) = pick o (fun i => R (x.getD i zero)) := by
    funext u
    unfold pick
    split
    · rename_i i hi
      obtain ⟨hi, _⟩ := List.idxOf?_eq_some_iff.mp hi
      simp only [hi, if_true]
    · rfl
  rw [e] at h1
  simp only [Nat.lt_irrefl, if_false] at h1
  have : pick o (fun i => R (x.getD i zero)) s = wsum (F s) (pick o (fun i => R (x.getD i zero))) / whole (F s) + R (b s) := by grind
  rw [this]; grind
end By

/-! ByV: how likely, and at what cost, by a rule. -/
namespace By
open Pn08
theorem Hits.ne {t : Task} {f : Rule} {s : Nat} (h : Hits (fo t f) (Goal t) s) (d : t.done s = false) : ∃ k, told f s = some k := by
  cases h with
  | here h => unfold Goal at h; rw [d] at h; cases h
  | step hx _ =>
    unfold fo at hx
    split at hx
    · rename_i k hk; exact ⟨k, hk⟩
    · simp at hx
theorem fo_some {t : Task} {f : Rule} {s k : Nat} (h : told f s = some k) : fo t f s = (t.act k).outs := by unfold fo; rw [h]
theorem valid_lt {t : Task} {f : Rule} (v : Valid t f) {s k : Nat} (h : told f s = some k) : k < t.acts.length := (mem_acts_.mp (v s k h).1).1
theorem fo_pos {t : Task} (w : Wf t) {f : Rule} (v : Valid t f) (s : Nat) : ∀ x ∈ fo t f s, 0 < x.2 := by
  intro x hx
  unfold fo at hx
  split at hx
  · rename_i k hk; exact (w.act (valid_lt v hk)).pos x hx
  · simp at hx
theorem Hits.lt {t : Task} (w : Wf t) {f : Rule} (v : Valid t f) {s : Nat} (h : Hits (fo t f) (Goal t) s) : s < t.states := by
  cases h with
  | here h => exact w.goal s (done_iff.mp h)
  | step hx _ =>
    unfold fo at hx
    split at hx
    · rename_i k hk
      have := mem_acts_.mp (v s k hk).1
      rw [← this.2]; exact w.at_ _ (act_mem this.1)
    · simp at hx
def cv (t : Task) (f : Rule) (s : Nat) : Rat := R (val (chancesBy t f) s)
/-- what a rule's chances are -/
structure Chances (t : Task) (f : Rule) : Prop where
  ok : AllOk (chancesBy t f)
  done : ∀ s, t.done s = true → cv t f s = 1
  none : ∀ s, t.done s = false → ¬ Hits (fo t f) (Goal t) s → cv t f s = 0
  some : ∀ s k, t.done s = false → Hits (fo t f) (Goal t) s → told f s = some k → cv t f s * whole (t.act k).outs = wsum (t.act k).outs (cv t f)
def openOf (t : Task) (f : Rule) : List Nat := (List.range t.states).filter fun s => (open_ t f).contains s && !t.done s
theorem mem_openOf {t : Task} (w : Wf t) {f : Rule} (v : Valid t f) {s : Nat} : s ∈ openOf t f ↔ Hits (fo t f) (Goal t) s ∧ t.done s = false := by
  unfold openOf
  simp only [List.mem_filter, List.mem_range, Bool.and_eq_true, List.contains_iff_mem, open_iff w v, Bool.not_eq_true']
  exact ⟨fun h => h.2, fun h => ⟨h.1.lt w v, h⟩⟩
theorem nodup_range_filter (n : Nat) (p : Nat → Bool) : ((List.range n).filter p).Nodup := List.Pairwise.filter _ List.nodup_range
theorem val_map {n : Nat} {g : Nat → Q} {s : Nat} : val ((List.range n).map g) s = if s < n then g s else zero := by
  unfold val
  rw [List.getD_eq_getElem?_getD, List.getElem?_map]
  by_cases c : s < n
  · rw [List.getElem?_eq_getElem (by simpa using c)]; simp [c]
  · rw [List.getElem?_eq_none (by simpa using c)]; simp [c]
theorem wsum_beq (o : Outs) (u : Nat) : wsum o (fun v => if (v == u) = true then 1 else 0) = wsum o (fun v => if v = u then 1 else 0) :=
  wsum_congr (fun x _ => by by_cases c : x.1 = u <;> simp [c])
theorem chances_by {t : Task} (w : Wf t) {f : Rule} (v : Valid t f) : Chances t f := by
  have nd : (openOf t f).Nodup := nodup_range_filter _ _
  have sys := sys_solve (openOf t f) nd (fo t f) (fun s _ => fo_pos w v s)
    (fun s hs => by
      obtain ⟨hh, hd⟩ := (mem_openOf w v).mp hs
      obtain ⟨k, hk⟩ := hh.ne hd
      rw [fo_some hk]; exact (w.act (valid_lt v hk)).ne)
    (fun s hs => by
      obtain ⟨hh, hd⟩ := (mem_openOf w v).mp hs
      refine hh.mono (fun s x hx _ => ⟨x, hx, rfl⟩) (fun u hu c => ?_)
      have := ((mem_openOf w v).mp c).2
      unfold Goal at hu
      rw [hu] at this; cases this)
    (fun s u => match told f s with
      | some k => total (((t.act k).chances.filter fun y => y.1 == u).map fun y => y.2)
      | none => zero)
    (fun s => match told f s with
      | some k => total (((t.act k).chances.filter fun y => t.done y.1).map fun y => y.2)
      | none => zero)
    (fun s hs u => by
      obtain ⟨hh, hd⟩ := (mem_openOf w v).mp hs
      obtain ⟨k, hk⟩ := hh.ne hd
      simp only [hk, fo_some hk]
      have := R_some (w.act (valid_lt v hk)) (fun y => y == u)
      rw [wsum_beq] at this
      exact ⟨this.2, this.1⟩)
    (fun s hs => by
      obtain ⟨hh, hd⟩ := (mem_openOf w v).mp hs
      obtain ⟨k, hk⟩ := hh.ne hd
      simp only [hk]
      exact (R_some (w.act (valid_lt v hk)) t.done).2) _ rfl
  obtain ⟨_, ok, eqn⟩ := sys
  generalize hx : solve (openOf t f).length _ = x at ok eqn
  have form : chancesBy t f = (List.range t.states).map fun s => if t.done s = true then one else match (openOf t f).idxOf? s with
    | some i => x.getD i zero
    | none => zero := by
    rw [← hx]; rfl
  have okv : ∀ s, Ok (if t.done s = true then one else match (openOf t f).idxOf? s with
    | some i => x.getD i zero
    | none => zero) := by
    intro s
    by_cases d : t.done s = true
    · rw [if_pos d]; exact ok_one
    · rw [if_neg d]
      split
      · exact ok.getD _
      · exact ok_zero
  have cve : ∀ s, cv t f s = (if t.done s = true then 1 else 0) + pick (openOf t f) (fun i => R (x.getD i zero)) s := by
    intro s
    unfold cv
    rw [form, val_map]
    by_cases c : s < t.states
    · rw [if_pos c]
      by_cases d : t.done s = true
      · rw [if_pos d, if_pos d, pick_out, R_one]
        · grind
        · intro m
          have := ((mem_openOf w v).mp m).2
          rw [d] at this; cases this
      · rw [if_neg d, if_neg d]
        unfold pick
        split <;> simp only [R_zero] <;> grind
    · rw [if_neg c, R_zero]
      have d : ¬ t.done s = true := fun d => c (w.goal s (done_iff.mp d))
      rw [if_neg d, pick_out]
      · grind
      · intro m; exact c (((mem_openOf w v).mp m).1.lt w v)
  refine ⟨?_, ?_, ?_, ?_⟩
  · rw [form]
    intro q hq
    obtain ⟨s, _, rfl⟩ := List.mem_map.mp hq
    exact okv s
  · intro s d
    rw [cve s, if_pos d, pick_out]
    · grind
    · intro m
      have := ((mem_openOf w v).mp m).2
      rw [d] at this; cases this
  · intro s d h
    rw [cve s, if_neg (by rw [d]; decide), pick_out]
    · grind
    · intro m; exact h ((mem_openOf w v).mp m).1
  · intro s k d h hk
    have e := eqn s ((mem_openOf w v).mpr ⟨h, d⟩)
    simp only [hk, fo_some hk] at e
    have ao := w.act (valid_lt v hk)
    have rs := (R_some ao t.done).1
    have wp := ao.whole_pos
    have ce : cv t f = fun s => (if t.done s = true then 1 else 0) + pick (openOf t f) (fun i => R (x.getD i zero)) s := funext cve
    have e2 : wsum (t.act k).outs (cv t f) = wsum (t.act k).outs (fun s => if t.done s = true then 1 else 0) + wsum (t.act k).outs (pick (openOf t f) (fun i => R (x.getD i zero))) := by
      rw [ce, wsum_add]
    rw [rs] at e
    rw [e2, cve s, if_neg (by rw [d]; decide)]
    grind
theorem Chances.bounds {t : Task} (w : Wf t) {f : Rule} (v : Valid t f) (c : Chances t f) (s : Nat) : 0 ≤ cv t f s ∧ cv t f s ≤ 1 ∧ (Hits (fo t f) (Goal t) s → 0 < cv t f s) := by
  have hits : ∀ s ∈ openOf t f, Hits (fo t f) (fun u => u ∉ openOf t f) s := fun s hs => by
      obtain ⟨hh, hd⟩ := (mem_openOf w v).mp hs
      refine hh.mono (fun s x hx _ => ⟨x, hx, rfl⟩) (fun u hu c => ?_)
      have := ((mem_openOf w v).mp c).2
      unfold Goal at hu
      rw [hu] at this; cases this
  have eq : ∀ s ∈ openOf t f, wsum (fo t f s) (fun _ => cv t f s) = wsum (fo t f s) (cv t f) := fun s hs => by
    obtain ⟨hh, hd⟩ := (mem_openOf w v).mp hs
    obtain ⟨k, hk⟩ := hh.ne hd
    rw [fo_some hk, wsum_const, c.some s k hd hh hk]
  have out : ∀ s, s ∉ openOf t f → cv t f s = 0 ∨ cv t f s = 1 := fun s hs => by
    by_cases d : t.done s = true
    · exact .inr (c.done s d)
    · have d' : t.done s = false := by simpa using d
      exact .inl (c.none s d' (fun h => hs ((mem_openOf w v).mpr ⟨h, d'⟩)))
  have up : ∀ s ∈ openOf t f, cv t f s ≤ 1 := compare (openOf t f) (fo t f) (fun s _ => fo_pos w v s) (fun _ => 0) (cv t f) (fun _ => 1)
    (fun s hs => by rw [eq s hs]; grind) (fun s hs => by grind) (fun s hs x hx => by
      by_cases m : x.1 ∈ openOf t f
      · exact .inl m
      · rcases out _ m with h | h <;> (rw [h]; exact .inr (by decide))) hits
  have dn : ∀ s ∈ openOf t f, 0 ≤ cv t f s := compare (openOf t f) (fo t f) (fun s _ => fo_pos w v s) (fun _ => 0) (fun _ => 0) (cv t f)
    (fun s hs => by grind) (fun s hs => by rw [eq s hs]; grind) (fun s hs x hx => by
      by_cases m : x.1 ∈ openOf t f
      · exact .inl m
      · rcases out _ m with h | h <;> (rw [h]; exact .inr (by decide))) hits
  have nn : ∀ s, 0 ≤ cv t f s := fun s => by
    by_cases m : s ∈ openOf t f
    · exact dn s m
    · rcases out s m with h | h <;> (rw [h]; decide)
  refine ⟨nn s, ?_, ?_⟩
  · by_cases m : s ∈ openOf t f
    · exact up s m
    · rcases out s m with h | h <;> (rw [h]; decide)
  · intro h
    induction h with
    | here h => rw [c.done _ h]; decide
    | @step s x hx hh ih =>
      by_cases d : t.done s = true
      · rw [c.done _ d]; decide
      · have d' : t.done s = false := by simpa using d
        have hs : Hits (fo t f) (Goal t) s := .step hx hh
        obtain ⟨k, hk⟩ := hs.ne d'
        have e := c.some s k d' hs hk
        rw [fo_some hk] at hx
        have ao := w.act (valid_lt v hk)
        have wp := ao.whole_pos
        refine Classical.byContradiction fun np => ?_
        have z : cv t f s = 0 := by have := nn s; grind
        rw [z] at e
        have z2 := wsum_eq_of (o := (t.act k).outs) (u := fun _ => 0) (v := cv t f) ao.pos (fun x _ => nn x.1) (by rw [wsum_const, ← e]; grind) x hx
        have : cv t f x.1 = 0 := z2.symm
        grind
end By

/-! ByK: what a rule costs where it is sure. -/
namespace By
open Pn08
theorem val_ok {l : Values} (h : AllOk l) (s : Nat) : Ok (val l s) := h.getD s
def sureOf (t : Task) (f : Rule) : List Nat := (List.range t.states).filter fun s => Q.same (val (chancesBy t f) s) one && !t.done s
theorem sure_same {t : Task} {f : Rule} (c : Chances t f) (s : Nat) : Q.same (val (chancesBy t f) s) one = true ↔ cv t f s = 1 := by
  rw [same_iff (val_ok c.ok s).1 ok_one.1, R_one]; rfl
theorem one_hits {t : Task} {f : Rule} (c : Chances t f) {s : Nat} (d : t.done s = false) (h : cv t f s = 1) : Hits (fo t f) (Goal t) s := by
  refine Classical.byContradiction fun n => ?_
  rw [c.none s d n] at h
  exact absurd h (by decide)
theorem mem_sureOf {t : Task} (w : Wf t) {f : Rule} (v : Valid t f) (c : Chances t f) {s : Nat} : s ∈ sureOf t f ↔ cv t f s = 1 ∧ t.done s = false := by
  unfold sureOf
  simp only [List.mem_filter, List.mem_range, Bool.and_eq_true, sure_same c, Bool.not_eq_true']
  exact ⟨fun h => h.2, fun h => ⟨(one_hits c h.2 h.1).lt w v, h⟩⟩
/-- where it is sure it stays sure -/
theorem sure_next {t : Task} (w : Wf t) {f : Rule} (v : Valid t f) (c : Chances t f) {s k : Nat} (d : t.done s = false) (h : cv t f s = 1) (hk : told f s = some k) :
    ∀ x ∈ (t.act k).outs, cv t f x.1 = 1 := by
  have e := c.some s k d (one_hits c d h) hk
  rw [h] at e
  have ao := w.act (valid_lt v hk)
  have := wsum_eq_of (o := (t.act k).outs) (u := cv t f) (v := fun _ => 1) ao.pos (fun x _ => (c.bounds w v x.1).2.1) (by
    rw [← e]; show whole _ ≤ _; grind)
  exact this
theorem sure_hits {t : Task} (w : Wf t) {f : Rule} (v : Valid t f) (c : Chances t f) : ∀ s ∈ sureOf t f, Hits (fo t f) (fun u => u ∉ sureOf t f) s := by
  intro s hs
  obtain ⟨h, d⟩ := (mem_sureOf w v c).mp hs
  refine (one_hits c d h).mono (fun s x hx _ => ⟨x, hx, rfl⟩) (fun u hu cc => ?_)
  have := ((mem_sureOf w v c).mp cc).2
  unfold Goal at hu
  rw [hu] at this; cases this
/-- the cost from a state, as a number; 0 where it isn't sure -/
def ce (t : Task) (f : Rule) (s : Nat) : Q := ((costsBy t f).getD s none).getD zero
def kv (t : Task) (f : Rule) (s : Nat) : Rat := R (ce t f s)
structure Costs (t : Task) (f : Rule) : Prop where
  ok : ∀ s, Ok (ce t f s)
  sure : ∀ s, ((costsBy t f).getD s none).isSome = true ↔ cv t f s = 1
  done : ∀ s, t.done s = true → kv t f s = 0
  none : ∀ s, cv t f s ≠ 1 → kv t f s = 0
  some : ∀ s k, t.done s = false → cv t f s = 1 → told f s = some k → kv t f s * whole (t.act k).outs = wsum (t.act k).outs (kv t f) + (t.act k).cost * whole (t.act k).outs
theorem opt_map {n : Nat} {g : Nat → Option Q} {s : Nat} : ((List.range n).map g).getD s none = if s < n then g s else none := by
  rw [List.getD_eq_getElem?_getD, List.getElem?_map]
  by_cases c : s < n
  · rw [List.getElem?_eq_getElem (by simpa using c)]; simp [c]
  · rw [List.getElem?_eq_none (by simpa using c)]; simp [c]
theorem costs_by {t : Task} (w : Wf t) {f : Rule} (v : Valid t f) : Costs t f := by
  have c := chances_by w v
  have nd : (sureOf t f).Nodup := nodup_range_filter _ _
  have hasK : ∀ s ∈ sureOf t f, ∃ k, told f s = some k := fun s hs => by
    obtain ⟨h, d⟩ := (mem_sureOf w v c).mp hs
    exact (one_hits c d h).ne d
  have sys := sys_solve (sureOf t f) nd (fo t f) (fun s _ => fo_pos w v s)
    (fun s hs => by
      obtain ⟨k, hk⟩ := hasK s hs
      rw [fo_some hk]; exact (w.act (valid_lt v hk)).ne)
    (sure_hits w v c)
    (fun s u => match told f s with
      | some k => total (((t.act k).chances.filter fun y => y.1 == u).map fun y => y.2)
      | none => zero)
    (fun s => match told f s with
      | some k => Q.of ((t.act k).cost : Int)
      | none => zero)
    (fun s hs u => by
      obtain ⟨k, hk⟩ := hasK s hs
      simp only [hk, fo_some hk]
      have := R_some (w.act (valid_lt v hk)) (fun y => y == u)
      rw [wsum_beq] at this
      exact ⟨this.2, this.1⟩)
    (fun s hs => by
      obtain ⟨k, hk⟩ := hasK s hs
      simp only [hk]
      exact ok_of _) _ rfl
  obtain ⟨_, ok, eqn⟩ := sys
  generalize hx : solve (sureOf t f).length _ = x at ok eqn
  have form : costsBy t f = (List.range t.states).map fun s => if t.done s = true then some zero else match (sureOf t f).idxOf? s with
    | some i => some (x.getD i zero)
    | none => none := by
    rw [← hx]; rfl
  have sure : ∀ s, ((costsBy t f).getD s none).isSome = true ↔ cv t f s = 1 := by
    intro s
    rw [form, opt_map]
    by_cases l : s < t.states
    · rw [if_pos l]
      by_cases d : t.done s = true
      · rw [if_pos d]; simp [c.done s d]
      · rw [if_neg d]
        have d' : t.done s = false := by simpa using d
        split
        · rename_i i hi
          have : s ∈ sureOf t f := by
            rw [← List.isSome_idxOf?, hi]; rfl
          simp [((mem_sureOf w v c).mp this).1]
        · rename_i hi
          have := List.idxOf?_eq_none_iff.mp hi
          simp only [Option.isSome_none, Bool.false_eq_true, false_iff]
          exact fun h => this ((mem_sureOf w v c).mpr ⟨h, d'⟩)
    · rw [if_neg l]
      simp only [Option.isSome_none, Bool.false_eq_true, false_iff]
      intro h
      have d : t.done s = false := by
        cases e : t.done s with
        | false => rfl
        | true => exact absurd (w.goal s (done_iff.mp e)) l
      exact l ((one_hits c d h).lt w v)
  have cee : ∀ s, Ok (ce t f s) ∧ kv t f s = pick (sureOf t f) (fun i => R (x.getD i zero)) s := by
    intro s
    unfold kv ce
    rw [form, opt_map]
    by_cases l : s < t.states
    · rw [if_pos l]
      by_cases d : t.done s = true
      · rw [if_pos d, pick_out]
        · exact ⟨ok_zero, R_zero⟩
        · intro m
          have := ((mem_sureOf w v c).mp m).2
          rw [d] at this; cases this
      · rw [if_neg d]
        unfold pick
        cases (sureOf t f).idxOf? s with
        | some i => exact ⟨ok.getD i, rfl⟩
        | none => exact ⟨ok_zero, R_zero⟩
    · rw [if_neg l, pick_out]
      · exact ⟨ok_zero, R_zero⟩
      · intro m
        have h := (mem_sureOf w v c).mp m
        exact l ((one_hits c h.2 h.1).lt w v)
  refine ⟨fun s => (cee s).1, sure, ?_, ?_, ?_⟩
  · intro s d
    rw [(cee s).2, pick_out]
    intro m
    have := ((mem_sureOf w v c).mp m).2
    rw [d] at this; cases this
  · intro s h
    rw [(cee s).2, pick_out]
    intro m
    exact h ((mem_sureOf w v c).mp m).1
  · intro s k d h hk
    have e := eqn s ((mem_sureOf w v c).mpr ⟨h, d⟩)
    simp only [hk, fo_some hk, R_of] at e
    have ke : kv t f = pick (sureOf t f) (fun i => R (x.getD i zero)) := funext fun s => (cee s).2
    rw [ke, e]
    simp only [Rat.intCast_natCast]
theorem Costs.bounds {t : Task} (w : Wf t) {f : Rule} (v : Valid t f) (c : Chances t f) (k : Costs t f) (s : Nat) : 0 ≤ kv t f s ∧ (t.done s = false → cv t f s = 1 → 0 < kv t f s) := by
  have hasK : ∀ s ∈ sureOf t f, ∃ k, told f s = Option.some k := fun s hs => by
    obtain ⟨h, d⟩ := (mem_sureOf w v c).mp hs
    exact (one_hits c d h).ne d
  have nn : ∀ s, 0 ≤ kv t f s := by
    intro s
    by_cases m : s ∈ sureOf t f
    · refine compare (sureOf t f) (fo t f) (fun s _ => fo_pos w v s) (fun _ => 0) (fun _ => 0) (kv t f) (fun s hs => by grind) (fun s hs => ?_) (fun s hs x hx => ?_) (sure_hits w v c) s m
      · obtain ⟨j, hj⟩ := hasK s hs
        obtain ⟨h, d⟩ := (mem_sureOf w v c).mp hs
        have e := k.some s j d h hj
        have wp := (w.act (valid_lt v hj)).whole_pos
        have := Rat.mul_nonneg (cast_nonneg (t.act j).cost) (show 0 ≤ whole (t.act j).outs by grind)
        rw [fo_some hj, wsum_const, e]; grind
      · by_cases m : x.1 ∈ sureOf t f
        · exact .inl m
        · refine .inr ?_
          by_cases d : t.done x.1 = true
          · rw [k.done _ d]; decide
          · rw [k.none x.1 (fun h => m ((mem_sureOf w v c).mpr ⟨h, by simpa using d⟩))]; decide
    · by_cases d : t.done s = true
      · rw [k.done _ d]; decide
      · rw [k.none s (fun h => m ((mem_sureOf w v c).mpr ⟨h, by simpa using d⟩))]; decide
  refine ⟨nn s, fun d h => ?_⟩
  obtain ⟨j, hj⟩ := hasK s ((mem_sureOf w v c).mpr ⟨h, d⟩)
  have e := k.some s j d h hj
  have hl := valid_lt v hj
  have wp := (w.act hl).whole_pos
  have cp := Rat.mul_pos (cast_pos (w.cost _ (act_mem hl))) wp
  have : wsum (t.act j).outs (fun _ => 0) ≤ wsum (t.act j).outs (kv t f) := wsum_le (fun x _ => nn x.1)
  rw [wsum_const] at this
  refine Classical.byContradiction fun np => ?_
  have z : kv t f s = 0 := by have := nn s; grind
  rw [z] at e
  grind
end By

/-! ByI: a rule made better; a rule that no act betters. -/
namespace By
open Pn08
theorem open_out {t : Task} (w : Wf t) {f : Rule} (v : Valid t f) : ∀ s ∈ openOf t f, Hits (fo t f) (fun u => u ∉ openOf t f) s := fun s hs => by
  obtain ⟨hh, hd⟩ := (mem_openOf w v).mp hs
  refine hh.mono (fun s x hx _ => ⟨x, hx, rfl⟩) (fun u hu c => ?_)
  have := ((mem_openOf w v).mp c).2
  unfold Goal at hu
  rw [hu] at this; cases this
theorem fo_none {t : Task} {f : Rule} {s : Nat} (h : told f s = none) : fo t f s = [] := by unfold fo; rw [h]
theorem none_hits {t : Task} {f : Rule} {s : Nat} (h : told f s = none) (d : t.done s = false) : ¬ Hits (fo t f) (Goal t) s := fun c => by
  obtain ⟨k, hk⟩ := c.ne d
  rw [h] at hk; cases hk
/-- **No act better: no rule better.** -/
theorem chance_opt {t : Task} (w : Wf t) {f g : Rule} (vf : Valid t f) (vg : Valid t g)
    (h : ∀ s, t.done s = false → ∀ k ∈ t.acts_ s, wsum (t.act k).outs (cv t f) ≤ cv t f s * whole (t.act k).outs) (s : Nat) : cv t g s ≤ cv t f s := by
  have cf := chances_by w vf
  have cg := chances_by w vg
  have out : ∀ s, s ∉ openOf t g → cv t g s ≤ cv t f s := fun s hs => by
    by_cases d : t.done s = true
    · rw [cf.done s d, cg.done s d]; exact Rat.le_refl
    · have d' : t.done s = false := by simpa using d
      rw [cg.none s d' (fun h => hs ((mem_openOf w vg).mpr ⟨h, d'⟩))]
      exact (cf.bounds w vf s).1
  by_cases m : s ∈ openOf t g
  · refine compare (openOf t g) (fo t g) (fun s _ => fo_pos w vg s) (fun _ => 0) (cv t g) (cv t f) (fun s hs => ?_) (fun s hs => ?_) (fun s hs x hx => ?_) (open_out w vg) s m
    · obtain ⟨hh, d⟩ := (mem_openOf w vg).mp hs
      obtain ⟨k, hk⟩ := hh.ne d
      rw [fo_some hk, wsum_const, cg.some s k d hh hk]; grind
    · obtain ⟨hh, d⟩ := (mem_openOf w vg).mp hs
      obtain ⟨k, hk⟩ := hh.ne d
      have := h s d k (vg s k hk).1
      rw [fo_some hk, wsum_const]; grind
    · by_cases m : x.1 ∈ openOf t g
      · exact .inl m
      · exact .inr (out _ m)
  · exact out s m
/-- from each state that it tells of it may come there -/
def Proper (t : Task) (f : Rule) : Prop := ∀ s k, told f s = some k → Hits (fo t f) (Goal t) s
/-- **A rule made better for the chance.** -/
theorem chance_step {t : Task} (w : Wf t) {f g : Rule} (vf : Valid t f) (vg : Valid t g) (dom : ∀ s, told f s = none ↔ told g s = none) (pf : Proper t f)
    (better : ∀ s j, told g s = some j → told f s = some j ∨ cv t f s * whole (t.act j).outs < wsum (t.act j).outs (cv t f)) :
    Proper t g ∧ (∀ s, cv t f s ≤ cv t g s) ∧ (∀ s j, told g s = some j → told f s ≠ some j → cv t f s < cv t g s) := by
  have cf := chances_by w vf
  have cg := chances_by w vg
  have domS : ∀ s j, told g s = some j → ∃ i, told f s = some i := fun s j hj => by
    cases e : told f s with
    | some i => exact ⟨i, rfl⟩
    | none => rw [(dom s).mp e] at hj; cases hj
  have ge : ∀ s j, told g s = some j → cv t f s * whole (t.act j).outs ≤ wsum (t.act j).outs (cv t f) := fun s j hj => by
    rcases better s j hj with h | h
    · have := cf.some s j (vf s j h).2 (pf s j h) h
      grind
    · grind
  have pg : Proper t g := by
    refine Classical.byContradiction fun np => ?_
    let C : List Nat := (List.range t.states).filter fun s => @decide ((∃ j, told g s = some j) ∧ ¬ Hits (fo t g) (Goal t) s) (Classical.propDecidable _)
    have mC : ∀ s, s ∈ C ↔ (∃ j, told g s = some j) ∧ ¬ Hits (fo t g) (Goal t) s := fun s => by
      simp only [C, List.mem_filter, List.mem_range, decide_eq_true_iff]
      refine ⟨fun h => h.2, fun h => ⟨?_, h⟩⟩
      obtain ⟨j, hj⟩ := h.1
      have := mem_acts_.mp (vg s j hj).1
      rw [← this.2]; exact w.at_ _ (act_mem this.1)
    have neC : C ≠ [] := by
      intro e
      refine np fun s k hk => Classical.byContradiction fun c => ?_
      have := (mC s).mpr ⟨⟨k, hk⟩, c⟩
      rw [e] at this; simp at this
    obtain ⟨m, hm, hmax⟩ := exists_max (cv t f) C neC
    have mp : 0 < cv t f m := by
      obtain ⟨⟨j, hj⟩, _⟩ := (mC m).mp hm
      obtain ⟨i, hi⟩ := domS m j hj
      exact (cf.bounds w vf m).2.2 (pf m i hi)
    have next : ∀ s j, s ∈ C → told g s = some j → ∀ x ∈ (t.act j).outs, x.1 ∈ C ∨ cv t f x.1 = 0 := by
      intro s j hs hj x hx
      have nh : ¬ Hits (fo t g) (Goal t) x.1 := fun c => ((mC s).mp hs).2 (.step (by rw [fo_some hj]; exact hx) c)
      have d : t.done x.1 = false := by
        cases e : t.done x.1 with
        | false => rfl
        | true => exact absurd (.here e) nh
      cases e : told g x.1 with
      | some i => exact .inl ((mC _).mpr ⟨⟨i, e⟩, nh⟩)
      | none => exact .inr (cf.none _ d (none_hits ((dom _).mpr e) d))
    have key : ∀ s, Hits (fo t f) (Goal t) s → s ∈ C → cv t f s = cv t f m → False := by
      intro s h
      induction h with
      | here h =>
        intro hs _
        obtain ⟨⟨j, hj⟩, _⟩ := (mC _).mp hs
        have := (vg _ j hj).2
        unfold Goal at h
        rw [h] at this; cases this
      | @step s x hx _ ih =>
        intro hs e
        obtain ⟨⟨j, hj⟩, _⟩ := (mC _).mp hs
        have le : ∀ x ∈ (t.act j).outs, cv t f x.1 ≤ (fun _ => cv t f s) x.1 := by
          intro x hx
          show cv t f x.1 ≤ cv t f s
          rw [e]
          rcases next s j hs hj x hx with h | h
          · exact hmax _ h
          · rw [h]; grind
        have hl := wsum_le (o := (t.act j).outs) (u := cv t f) (v := fun _ => cv t f s) le
        rw [wsum_const] at hl
        rcases better s j hj with h | h
        · rw [fo_some h] at hx
          have ao := w.act (valid_lt vf h)
          have eq := wsum_eq_of (u := cv t f) (v := fun _ => cv t f s) ao.pos le (by rw [wsum_const]; exact ge s j hj) x hx
          have eq' : cv t f x.1 = cv t f m := by rw [← e]; exact eq
          rcases next s j hs hj x hx with h | h
          · exact ih h eq'
          · rw [h] at eq'; grind
        · grind
    obtain ⟨⟨j, hj⟩, _⟩ := (mC m).mp hm
    obtain ⟨i, hi⟩ := domS m j hj
    exact key m (pf m i hi) hm rfl
  have out : ∀ s, s ∉ openOf t g → cv t f s ≤ cv t g s := fun s hs => by
    by_cases d : t.done s = true
    · rw [cf.done s d, cg.done s d]; exact Rat.le_refl
    · have d' : t.done s = false := by simpa using d
      cases e : told g s with
      | some j => exact absurd ((mem_openOf w vg).mpr ⟨pg s j e, d'⟩) hs
      | none =>
        rw [cf.none s d' (none_hits ((dom s).mpr e) d')]
        exact (cg.bounds w vg s).1
  have le : ∀ s, cv t f s ≤ cv t g s := by
    intro s
    by_cases m : s ∈ openOf t g
    · refine compare (openOf t g) (fo t g) (fun s _ => fo_pos w vg s) (fun _ => 0) (cv t f) (cv t g) (fun s hs => ?_) (fun s hs => ?_) (fun s hs x hx => ?_) (open_out w vg) s m
      · obtain ⟨hh, d⟩ := (mem_openOf w vg).mp hs
        obtain ⟨k, hk⟩ := hh.ne d
        have := ge s k hk
        rw [fo_some hk, wsum_const]; grind
      · obtain ⟨hh, d⟩ := (mem_openOf w vg).mp hs
        obtain ⟨k, hk⟩ := hh.ne d
        rw [fo_some hk, wsum_const, cg.some s k d hh hk]; grind
      · by_cases m : x.1 ∈ openOf t g
        · exact .inl m
        · exact .inr (out _ m)
    · exact out s m
  refine ⟨pg, le, fun s j hj ne => ?_⟩
  rcases better s j hj with h | h
  · exact absurd h ne
  · have h1 : wsum (t.act j).outs (cv t f) ≤ wsum (t.act j).outs (cv t g) := wsum_le (fun x _ => le x.1)
    have h2 := cg.some s j (vg s j hj).2 (pg s j hj) hj
    have wp := (w.act (valid_lt vg hj)).whole_pos
    rw [← h2] at h1
    have h3 : cv t f s * whole (t.act j).outs < cv t g s * whole (t.act j).outs := by grind
    exact (Rat.mul_lt_mul_right wp).mp h3
/-- sure wherever it tells -/
def Sure (t : Task) (f : Rule) : Prop := ∀ s k, told f s = some k → cv t f s = 1
/-- what it does leads only to where it tells, or is done -/
def Inside (t : Task) (f : Rule) : Prop := ∀ s k, told f s = some k → ∀ x ∈ (t.act k).outs, t.done x.1 = true ∨ ∃ j, told f x.1 = some j
theorem sure_of {t : Task} (w : Wf t) {g : Rule} (vg : Valid t g) (ig : Inside t g) (pg : Proper t g) : Sure t g := by
  have cg := chances_by w vg
  intro s k hk
  have d := (vg s k hk).2
  have up := (cg.bounds w vg s).2.1
  have dn := compare (openOf t g) (fo t g) (fun s _ => fo_pos w vg s) (fun _ => 0) (fun _ => 1) (cv t g) (fun s hs => by grind) (fun s hs => by
      obtain ⟨hh, d⟩ := (mem_openOf w vg).mp hs
      obtain ⟨k, hk⟩ := hh.ne d
      rw [fo_some hk, wsum_const, cg.some s k d hh hk]; grind) (fun s hs x hx => by
      obtain ⟨hh, d⟩ := (mem_openOf w vg).mp hs
      obtain ⟨k, hk⟩ := hh.ne d
      rw [fo_some hk] at hx
      by_cases dx : t.done x.1 = true
      · exact .inr (by rw [cg.done _ dx]; exact Rat.le_refl)
      · rcases ig s k hk x hx with h | ⟨j, hj⟩
        · exact absurd h dx
        · exact .inl ((mem_openOf w vg).mpr ⟨pg _ j hj, by simpa using dx⟩)) (open_out w vg) s ((mem_openOf w vg).mpr ⟨pg s k hk, d⟩)
  grind
/-- **A rule made better for the cost.** -/
theorem cost_step {t : Task} (w : Wf t) {f g : Rule} (vf : Valid t f) (vg : Valid t g) (dom : ∀ s, told f s = none ↔ told g s = none) (sf : Sure t f) (ig : Inside t g)
    (better : ∀ s j, told g s = some j → told f s = some j ∨ wsum (t.act j).outs (kv t f) + (t.act j).cost * whole (t.act j).outs < kv t f s * whole (t.act j).outs) :
    Sure t g ∧ (∀ s, kv t g s ≤ kv t f s) ∧ (∀ s j, told g s = some j → told f s ≠ some j → kv t g s < kv t f s) := by
  have cf := chances_by w vf
  have cg := chances_by w vg
  have kf := costs_by w vf
  have kg := costs_by w vg
  have ge : ∀ s j, told g s = some j → wsum (t.act j).outs (kv t f) + (t.act j).cost * whole (t.act j).outs ≤ kv t f s * whole (t.act j).outs := fun s j hj => by
    rcases better s j hj with h | h
    · have := kf.some s j (vf s j h).2 (sf s j h) h
      grind
    · grind
  have pg : Proper t g := by
    refine Classical.byContradiction fun np => ?_
    let C : List Nat := (List.range t.states).filter fun s => @decide ((∃ j, told g s = some j) ∧ ¬ Hits (fo t g) (Goal t) s) (Classical.propDecidable _)
    have mC : ∀ s, s ∈ C ↔ (∃ j, told g s = some j) ∧ ¬ Hits (fo t g) (Goal t) s := fun s => by
      simp only [C, List.mem_filter, List.mem_range, decide_eq_true_iff]
      refine ⟨fun h => h.2, fun h => ⟨?_, h⟩⟩
      obtain ⟨j, hj⟩ := h.1
      have := mem_acts_.mp (vg s j hj).1
      rw [← this.2]; exact w.at_ _ (act_mem this.1)
    have neC : C ≠ [] := by
      intro e
      refine np fun s k hk => Classical.byContradiction fun c => ?_
      have := (mC s).mpr ⟨⟨k, hk⟩, c⟩
      rw [e] at this; simp at this
    obtain ⟨m, hm, hmax⟩ := exists_max (fun s => - kv t f s) C neC
    obtain ⟨⟨j, hj⟩, nh⟩ := (mC m).mp hm
    have le : ∀ x ∈ (t.act j).outs, (fun _ => kv t f m) x.1 ≤ kv t f x.1 := by
      intro x hx
      have nhx : ¬ Hits (fo t g) (Goal t) x.1 := fun c => nh (.step (by rw [fo_some hj]; exact hx) c)
      rcases ig m j hj x hx with h | ⟨i, hi⟩
      · exact absurd (.here h) nhx
      · have := hmax _ ((mC x.1).mpr ⟨⟨i, hi⟩, nhx⟩)
        show kv t f m ≤ kv t f x.1
        grind
    have hl := wsum_le (o := (t.act j).outs) (u := fun _ => kv t f m) (v := kv t f) le
    rw [wsum_const] at hl
    have := ge m j hj
    have lt := valid_lt vg hj
    have wp := (w.act lt).whole_pos
    have cp := Rat.mul_pos (cast_pos (w.cost _ (act_mem lt))) wp
    grind
  have sg := sure_of w vg ig pg
  have tg : ∀ s ∈ sureOf t g, ∃ k, told g s = some k := fun s hs => by
    obtain ⟨h, d⟩ := (mem_sureOf w vg cg).mp hs
    exact (one_hits cg d h).ne d
  have out : ∀ s, s ∉ sureOf t g → kv t g s = 0 := fun s hs => by
    by_cases d : t.done s = true
    · exact kg.done s d
    · exact kg.none s (fun h => hs ((mem_sureOf w vg cg).mpr ⟨h, by simpa using d⟩))
  have le : ∀ s, kv t g s ≤ kv t f s := by
    intro s
    by_cases m : s ∈ sureOf t g
    · refine compare (sureOf t g) (fo t g) (fun s _ => fo_pos w vg s) (fun s => match told g s with | some k => (t.act k).cost * whole (t.act k).outs | none => 0) (kv t g) (kv t f) (fun s hs => ?_) (fun s hs => ?_) (fun s hs x hx => ?_) (sure_hits w vg cg) s m
      · obtain ⟨k, hk⟩ := tg s hs
        obtain ⟨h, d⟩ := (mem_sureOf w vg cg).mp hs
        have := kg.some s k d h hk
        simp only [fo_some hk, hk, wsum_const]; grind
      · obtain ⟨k, hk⟩ := tg s hs
        have := ge s k hk
        simp only [fo_some hk, hk, wsum_const]; grind
      · by_cases m : x.1 ∈ sureOf t g
        · exact .inl m
        · exact .inr (by rw [out _ m]; exact (kf.bounds w vf cf x.1).1)
    · rw [out s m]; exact (kf.bounds w vf cf s).1
  refine ⟨sg, le, fun s j hj ne => ?_⟩
  rcases better s j hj with h | h
  · exact absurd h ne
  · have h1 : wsum (t.act j).outs (kv t g) ≤ wsum (t.act j).outs (kv t f) := wsum_le (fun x _ => le x.1)
    have h2 := kg.some s j (vg s j hj).2 (sg s j hj) hj
    have wp := (w.act (valid_lt vg hj)).whole_pos
    have h3 : kv t g s * whole (t.act j).outs < kv t f s * whole (t.act j).outs := by grind
    exact (Rat.mul_lt_mul_right wp).mp h3
/-- **No act cheaper: no rule cheaper.** -/
theorem cost_opt {t : Task} (w : Wf t) {f g : Rule} (vf : Valid t f) (vg : Valid t g) (sg : Sure t g)
    (h : ∀ s k, told g s = some k → kv t f s * whole (t.act k).outs ≤ wsum (t.act k).outs (kv t f) + (t.act k).cost * whole (t.act k).outs)
    (s k : Nat) (hs : told g s = some k) : kv t f s ≤ kv t g s := by
  have cf := chances_by w vf
  have cg := chances_by w vg
  have kf := costs_by w vf
  have kg := costs_by w vg
  have tg : ∀ s ∈ sureOf t g, ∃ k, told g s = some k := fun s hs => by
    obtain ⟨h, d⟩ := (mem_sureOf w vg cg).mp hs
    exact (one_hits cg d h).ne d
  refine compare (sureOf t g) (fo t g) (fun s _ => fo_pos w vg s) (fun s => match told g s with | some k => (t.act k).cost * whole (t.act k).outs | none => 0) (kv t f) (kv t g) (fun s hs => ?_) (fun s hs => ?_) (fun s hs x hx => ?_) (sure_hits w vg cg) s ((mem_sureOf w vg cg).mpr ⟨sg s k hs, (vg s k hs).2⟩)
  · obtain ⟨k, hk⟩ := tg s hs
    have := h s k hk
    simp only [fo_some hk, hk, wsum_const]; grind
  · obtain ⟨k, hk⟩ := tg s hs
    obtain ⟨h, d⟩ := (mem_sureOf w vg cg).mp hs
    have := kg.some s k d h hk
    simp only [fo_some hk, hk, wsum_const]; grind
  · obtain ⟨k, hk⟩ := tg s hs
    obtain ⟨h, d⟩ := (mem_sureOf w vg cg).mp hs
    rw [fo_some hk] at hx
    have one := sure_next w vg cg d h hk x hx
    by_cases dx : t.done x.1 = true
    · exact .inr (by rw [kf.done _ dx, kg.done _ dx]; exact Rat.le_refl)
    · exact .inl ((mem_sureOf w vg cg).mpr ⟨one, by simpa using dx⟩)
end By

/-! ByN: how many rules there are; the making better ends. -/
namespace By
open Pn08
def prods {α : Type} : List (List α) → List (List α)
  | [] => [[]]
  | l :: r => l.flatMap fun a => (prods r).map fun b => a :: b
theorem mem_prods {α : Type} : ∀ (L : List (List α)) (f : List α), f.length = L.length → (∀ i (h : i < f.length) (h' : i < L.length), f[i] ∈ L[i]) → f ∈ prods L
  | [], [], _, _ => by simp [prods]
  | [], _ :: _, e, _ => by simp at e
  | _ :: _, [], e, _ => by simp at e
  | l :: L, a :: f, e, h => by
    simp only [prods, List.mem_flatMap, List.mem_map]
    refine ⟨a, h 0 (by simp) (by simp), f, mem_prods L f (by simpa using e) (fun i hi hi' => ?_), rfl⟩
    exact h (i + 1) (by simpa using hi) (by simpa using hi')
def prodLen {α : Type} : List (List α) → Nat
  | [] => 1
  | l :: r => l.length * prodLen r
theorem length_prods {α : Type} : ∀ (L : List (List α)), (prods L).length = prodLen L
  | [] => rfl
  | l :: L => by
    have : ∀ (l : List α) (B : List (List α)), (l.flatMap fun a => B.map fun b => a :: b).length = l.length * B.length := by
      intro l B
      induction l with
      | nil => simp
      | cons a l ih => rw [List.flatMap_cons, List.length_append, ih, List.length_map, List.length_cons, Nat.add_mul]; omega
    simp only [prods, prodLen]
    rw [this, length_prods L]
theorem cube {y x : Nat} (h : x ≤ max 1 y) (hy : y ≤ 12) : x ^ 3 ≤ 3 ^ y := by
  have a : x ^ 3 ≤ (max 1 y) ^ 3 := Nat.pow_le_pow_left h 3
  have b : ∀ y, y < 13 → (max 1 y) ^ 3 ≤ 3 ^ y := by decide
  exact Nat.le_trans a (b y (by omega))
theorem prodLen_cube {α : Type} (opt : Nat → List α) (a : Nat → Nat) : ∀ (S : List Nat), (∀ s ∈ S, (opt s).length ≤ max 1 (a s)) → (S.map a).sum ≤ 12 → (prodLen (S.map opt)) ^ 3 ≤ 3 ^ (S.map a).sum
  | [], _, _ => by simp [prodLen]
  | s :: S, h, hs => by
    simp only [List.map_cons, List.sum_cons] at hs
    have ih := prodLen_cube opt a S (fun u hu => h u (by simp [hu])) (by omega)
    have c := cube (h s (by simp)) (show a s ≤ 12 by omega)
    simp only [List.map_cons, prodLen, List.sum_cons, Nat.mul_pow, Nat.pow_add]
    exact Nat.mul_le_mul c ih
theorem sum_one : ∀ (S : List Nat) (a : Nat), S.Nodup → (S.map fun s => if a = s then 1 else 0).sum ≤ 1
  | [], _, _ => by simp
  | s :: S, a, nd => by
    rw [List.nodup_cons] at nd
    have ih := sum_one S a nd.2
    simp only [List.map_cons, List.sum_cons]
    by_cases c : a = s
    · subst c
      have : (S.map fun s => if a = s then 1 else 0).sum = 0 := by
        have : ∀ (S : List Nat), a ∉ S → (S.map fun s => if a = s then 1 else 0).sum = 0 := by
          intro S
          induction S with
          | nil => simp
          | cons b S ih => intro h; simp only [List.mem_cons, not_or] at h; simp only [List.map_cons, List.sum_cons, if_neg h.1, ih h.2]
        exact this S nd.1
      simp [this]
    · simp [c]; exact ih
theorem sum_acts (g : Nat → Nat) (S : List Nat) (nd : S.Nodup) : ∀ (l : List Nat), (S.map fun s => (l.filter fun k => g k == s).length).sum ≤ l.length
  | [] => by
    have : ∀ S : List Nat, (S.map fun s => (([] : List Nat).filter fun k => g k == s).length).sum = 0 := by
      intro S; induction S with
      | nil => rfl
      | cons a S ih => simp only [List.map_cons, List.sum_cons, ih]; rfl
    rw [this]; simp
  | k :: l => by
    have ih := sum_acts g S nd l
    have e : ∀ S : List Nat, (S.map fun s => ((k :: l).filter fun k => g k == s).length).sum = (S.map fun s => if g k = s then 1 else 0).sum + (S.map fun s => (l.filter fun k => g k == s).length).sum := by
      intro S; induction S with
      | nil => rfl
      | cons a S ih =>
        simp only [List.map_cons, List.sum_cons, ih]
        by_cases c : g k = a
        · simp [List.filter_cons, c]; omega
        · simp [List.filter_cons, c]; omega
    rw [e]
    have := sum_one S (g k) nd
    simp only [List.length_cons]; omega
theorem few {t : Task} (w : Wf t) (opt : Nat → List (Option Nat)) (h : ∀ s, (opt s).length ≤ max 1 (t.acts_ s).length) : (prods ((List.range t.states).map opt)).length ≤ ENOUGH := by
  rw [length_prods]
  have e := sum_acts (fun k => (t.act k).at_) (List.range t.states) List.nodup_range (List.range t.acts.length)
  have m := w.many
  rw [List.length_range] at e
  have e' : ((List.range t.states).map fun s => (t.acts_ s).length).sum ≤ t.acts.length := e
  have c := prodLen_cube opt (fun s => (t.acts_ s).length) (List.range t.states) (fun s _ => h s) (by omega)
  have p : 3 ^ ((List.range t.states).map fun s => (t.acts_ s).length).sum ≤ 3 ^ 12 := Nat.pow_le_pow_right (by decide) (by omega)
  unfold ENOUGH
  refine Nat.le_of_not_lt fun lt => ?_
  have q : 201 ^ 3 ≤ (prodLen ((List.range t.states).map opt)) ^ 3 := Nat.pow_le_pow_left lt 3
  have r : (3 : Nat) ^ 12 < 201 ^ 3 := by decide
  omega
/-- a making better that ends, since each time some rule less is better -/
theorem iterate {α : Type} [DecidableEq α] (step : α → α) (run : Nat → α → α) (h0 : ∀ f, run 0 f = f) (h1 : ∀ n f, run (n + 1) f = if step f = f then f else run n (step f))
    (I : α → Prop) (keep : ∀ f, I f → I (step f)) (score : α → Rat) (L : List α) (inL : ∀ f, I f → f ∈ L) (up : ∀ f, I f → step f ≠ f → score f < score (step f)) :
    ∀ n f, I f → (L.filter fun h => decide (score f < score h)).length ≤ n → I (run n f) ∧ step (run n f) = run n f := by
  intro n
  induction n with
  | zero =>
    intro f hf hl
    rw [h0]
    refine ⟨hf, Classical.byContradiction fun ne => ?_⟩
    have e := List.length_eq_zero_iff.mp (Nat.le_zero.mp hl)
    have := List.filter_eq_nil_iff.mp e (step f) (inL _ (keep f hf))
    exact this (by simpa using up f hf ne)
  | succ n ih =>
    intro f hf hl
    rw [h1]
    by_cases e : step f = f
    · rw [if_pos e]; exact ⟨hf, e⟩
    · rw [if_neg e]
      refine ih _ (keep f hf) ?_
      have u := up f hf e
      have : (L.filter fun h => decide (score (step f) < score h)).length < (L.filter fun h => decide (score f < score h)).length := by
        refine filter_lt (fun x _ hx => ?_) ⟨step f, inL _ (keep f hf), by simpa using u, by simp⟩
        simp only [decide_eq_true_iff] at hx ⊢
        grind
      omega
theorem best_none {better : Q → Q → Bool} {value : Nat → Q} : ∀ (l : List Nat), best better value l = none → l = []
  | [], _ => rfl
  | k :: l, h => by
    unfold best at h
    split at h
    · cases h
    · split at h <;> cases h
theorem best_some {better : Q → Q → Bool} {value : Nat → Q} {ka : Nat → Rat} : ∀ (l : List Nat) (j : Nat), (∀ a ∈ l, ∀ b ∈ l, better (value a) (value b) = true ↔ ka b < ka a) →
    best better value l = some j → j ∈ l ∧ ∀ i ∈ l, ka i ≤ ka j
  | [], _, _, h => by simp [best] at h
  | k :: l, j, hb, h => by
    unfold best at h
    split at h
    · rename_i e
      cases h
      have := best_none l e
      subst this
      exact ⟨by simp, by intro i hi; simp at hi; subst hi; exact Rat.le_refl⟩
    · rename_i m e
      have ih := best_some (ka := ka) l m (fun a ha b hb' => hb a (by simp [ha]) b (by simp [hb'])) e
      have key := hb m (by simp [ih.1]) k (by simp)
      split at h
      · rename_i c
        cases h
        refine ⟨by simp [ih.1], fun i hi => ?_⟩
        rcases List.mem_cons.mp hi with rfl | hi
        · have := key.mp c; grind
        · exact ih.2 i hi
      · rename_i c
        cases h
        refine ⟨by simp, fun i hi => ?_⟩
        rcases List.mem_cons.mp hi with rfl | hi
        · exact Rat.le_refl
        · have a := ih.2 i hi
          have b : ¬ ka k < ka m := fun x => c (key.mpr x)
          grind
/-- what a rule made better tells -/
theorem better_told {t : Task} {f : Rule} (len : f.length = t.states) {acts : Nat → List Nat} {better : Q → Q → Bool} {now value : Nat → Q} (s : Nat) :
    told (betterRule t f acts better now value) s = match told f s with
      | none => none
      | some k => match best better value (acts s) with
        | some j => if better (value j) (now s) = true then some j else some k
        | none => some k := by
  unfold betterRule
  rw [told_map]
  by_cases c : s < t.states
  · rw [if_pos c]; cases told f s <;> rfl
  · rw [if_neg c]
    have : told f s = none := by
      unfold told
      rw [List.getD_eq_getElem?_getD, List.getElem?_eq_none (by omega)]; rfl
    rw [this]
theorem better_len {t : Task} {f : Rule} {acts : Nat → List Nat} {better : Q → Q → Bool} {now value : Nat → Q} :
    (betterRule t f acts better now value).length = t.states := by unfold betterRule; simp
theorem better_none {t : Task} {f : Rule} (len : f.length = t.states) {acts : Nat → List Nat} {better : Q → Q → Bool} {now value : Nat → Q} (s : Nat) :
    told f s = none ↔ told (betterRule t f acts better now value) s = none := by
  rw [better_told len]
  cases told f s with
  | none => simp
  | some k =>
    simp only [reduceCtorEq, false_iff]
    cases best better value (acts s) with
    | none => simp
    | some j => simp only; split <;> simp
theorem better_some {t : Task} {f : Rule} (len : f.length = t.states) {acts : Nat → List Nat} {better : Q → Q → Bool} {now value : Nat → Q} {s j : Nat} {ka : Nat → Rat} {no : Rat}
    (hb : ∀ a ∈ acts s, ∀ b ∈ acts s, better (value a) (value b) = true ↔ ka b < ka a) (hn : ∀ a ∈ acts s, better (value a) (now s) = true ↔ no < ka a)
    (h : told (betterRule t f acts better now value) s = some j) : told f s = some j ∨ (j ∈ acts s ∧ no < ka j) := by
  rw [better_told len] at h
  cases e : told f s with
  | none => rw [e] at h; cases h
  | some k =>
    rw [e] at h
    simp only at h
    cases e2 : best better value (acts s) with
    | none => rw [e2] at h; exact .inl h
    | some i =>
      rw [e2] at h
      simp only at h
      have bs := best_some (ka := ka) _ _ hb e2
      split at h
      · rename_i c
        cases h
        exact .inr ⟨bs.1, (hn _ bs.1).mp c⟩
      · exact .inl h
theorem better_fix {t : Task} {f : Rule} (len : f.length = t.states) {acts : Nat → List Nat} {better : Q → Q → Bool} {now value : Nat → Q} {s k : Nat} {ka : Nat → Rat} {no : Rat}
    (hb : ∀ a ∈ acts s, ∀ b ∈ acts s, better (value a) (value b) = true ↔ ka b < ka a) (hn : ∀ a ∈ acts s, better (value a) (now s) = true ↔ no < ka a)
    (fix : betterRule t f acts better now value = f) (hk : told f s = some k) (same : ka k = no) : ∀ i ∈ acts s, ka i ≤ no := by
  intro i hi
  have h := better_told len (acts := acts) (better := better) (now := now) (value := value) s
  rw [fix, hk] at h
  simp only at h
  cases e2 : best better value (acts s) with
  | none => rw [best_none _ e2] at hi; simp at hi
  | some j =>
    rw [e2] at h
    simp only at h
    have bs := best_some (ka := ka) _ _ hb e2
    have bi := bs.2 i hi
    have hj := hn j bs.1
    split at h
    · rename_i c
      cases h
      have := hj.mp c
      grind
    · rename_i c
      have : ¬ no < ka j := fun x => c (hj.mpr x)
      grind
end By

/-! ByB: the best chances and the best costs of the specification. -/
namespace By
open Pn08
theorem lt_div {a b W : Rat} (h : 0 < W) : a < b / W ↔ a * W < b := by
  have e : b / W * W = b := by grind
  rw [← Rat.mul_lt_mul_right h, e]
theorem div_le {a b W : Rat} (h : 0 < W) : b / W ≤ a ↔ b ≤ a * W := by
  have := lt_div (a := a) (b := b) h
  grind
theorem eq_div {a b W : Rat} (h : 0 < W) : b / W = a ↔ b = a * W := by
  constructor
  · intro e; rw [← e]; grind
  · intro e; rw [e]; grind
theorem told_ext {f g : Rule} (l : f.length = g.length) (h : ∀ s, told f s = told g s) : f = g := by
  refine List.ext_getElem l fun i h1 h2 => ?_
  have := h i
  unfold told at this
  rw [List.getD_eq_getElem?_getD, List.getD_eq_getElem?_getD, List.getElem?_eq_getElem h1, List.getElem?_eq_getElem h2] at this
  exact this
/-- rules over the same states as a first one, by some acts -/
structure Like (t : Task) (al : Nat → List Nat) (f0 f : Rule) : Prop where
  len : f.length = t.states
  dom : ∀ s, told f s = none ↔ told f0 s = none
  acts : ∀ s k, told f s = some k → k ∈ al s
def optOf (al : Nat → List Nat) (f0 : Rule) (s : Nat) : List (Option Nat) := match told f0 s with
  | none => [none]
  | some _ => (al s).map some
theorem Like.mem {t : Task} {al : Nat → List Nat} {f0 f : Rule} (h : Like t al f0 f) : f ∈ prods ((List.range t.states).map (optOf al f0)) := by
  refine mem_prods _ _ (by simp [h.len]) fun i hi hi' => ?_
  have e : told f i = f[i] := by unfold told; rw [List.getD_eq_getElem?_getD, List.getElem?_eq_getElem hi]; rfl
  rw [List.getElem_map, List.getElem_range]
  unfold optOf
  have d := h.dom i
  rw [e] at d
  cases c : f[i] with
  | none =>
    rw [d.mp c]; simp
  | some k =>
    have : told f0 i ≠ none := fun x => by rw [d.mpr x] at c; cases c
    cases c0 : told f0 i with
    | none => exact absurd c0 this
    | some m => simp; exact h.acts i k (by rw [e, c])
theorem Like.few {t : Task} (w : Wf t) {al : Nat → List Nat} {f0 : Rule} (h : ∀ s, (al s).length ≤ (t.acts_ s).length) : (prods ((List.range t.states).map (optOf al f0))).length ≤ ENOUGH := by
  refine By.few w _ fun s => ?_
  unfold optOf
  cases told f0 s with
  | none => simp; omega
  | some k => simp; have := h s; omega
theorem sumL_lt : ∀ {l : List Nat} {g h : Nat → Rat}, (∀ u ∈ l, g u ≤ h u) → (∃ u ∈ l, g u < h u) → sumL l g < sumL l h
  | [], _, _, _, h => by obtain ⟨u, hu, _⟩ := h; simp at hu
  | a :: l, g, h, le, lt => by
    simp only [sumL]
    have a1 := le a (by simp)
    have le' : sumL l g ≤ sumL l h := by
      have : ∀ (l : List Nat), (∀ u ∈ l, g u ≤ h u) → sumL l g ≤ sumL l h := by
        intro l
        induction l with
        | nil => intro _; exact Rat.le_refl
        | cons b l ih => intro x; simp only [sumL]; have := x b (by simp); have := ih (fun u hu => x u (by simp [hu])); grind
      exact this l (fun u hu => le u (by simp [hu]))
    obtain ⟨u, hu, hlt⟩ := lt
    rcases List.mem_cons.mp hu with rfl | hu
    · grind
    · have := sumL_lt (l := l) (fun u hu => le u (by simp [hu])) ⟨u, hu, hlt⟩
      grind
theorem ne_told {f g : Rule} (l : f.length = g.length) (ne : g ≠ f) (dom : ∀ s, told f s = none ↔ told g s = none) : ∃ s j, told g s = some j ∧ told f s ≠ some j := by
  refine Classical.byContradiction fun c => ne ?_
  refine told_ext l.symm fun s => ?_
  cases e : told g s with
  | none => exact ((dom s).mpr e).symm
  | some j => exact (Classical.byContradiction fun x => c ⟨s, j, e, fun y => x y.symm⟩)
theorem told_lt {f : Rule} {s j : Nat} (h : told f s = some j) : s < f.length := by
  refine Nat.lt_of_not_le fun c => ?_
  unfold told at h
  rw [List.getD_eq_getElem?_getD, List.getElem?_eq_none c] at h
  cases h
def stepC (t : Task) (f : Rule) : Rule := betterRule t f t.acts_ (fun a b => b.less a) (val (chancesBy t f)) fun k => mean (chancesBy t f) (t.act k)
def meanV (t : Task) (v : Nat → Rat) (k : Nat) : Rat := wsum (t.act k).outs v / whole (t.act k).outs
theorem R_meanC {t : Task} (w : Wf t) {f : Rule} (v : Valid t f) {k : Nat} (hk : k < t.acts.length) : R (mean (chancesBy t f) (t.act k)) = meanV t (cv t f) k ∧ Ok (mean (chancesBy t f) (t.act k)) :=
  R_mean (w.act hk) (val (chancesBy t f)) (val_ok (chances_by w v).ok)
/-- **The rule that improve ends with.** -/
theorem improve_spec {t : Task} (w : Wf t) (f0 : Rule) (len0 : f0.length = t.states) (v0 : Valid t f0) (p0 : Proper t f0) :
    ∃ f, improve t ENOUGH f0 = f ∧ Valid t f ∧ Proper t f ∧ (∀ s, told f s = none ↔ told f0 s = none) ∧
      ∀ s k, told f s = some k → ∀ i ∈ t.acts_ s, wsum (t.act i).outs (cv t f) ≤ cv t f s * whole (t.act i).outs := by
  have hb : ∀ f, Valid t f → ∀ s, (∀ a ∈ t.acts_ s, ∀ b ∈ t.acts_ s, (fun a b : Q => b.less a) (mean (chancesBy t f) (t.act a)) (mean (chancesBy t f) (t.act b)) = true ↔ meanV t (cv t f) b < meanV t (cv t f) a) ∧
      (∀ a ∈ t.acts_ s, (fun a b : Q => b.less a) (mean (chancesBy t f) (t.act a)) (val (chancesBy t f) s) = true ↔ cv t f s < meanV t (cv t f) a) := by
    intro f v s
    have c := chances_by w v
    refine ⟨fun a ha b hb => ?_, fun a ha => ?_⟩
    · have ra := R_meanC w v (mem_acts_.mp ha).1
      have rb := R_meanC w v (mem_acts_.mp hb).1
      simp only
      rw [less_iff rb.2.1 ra.2.1, ra.1, rb.1]
    · have ra := R_meanC w v (mem_acts_.mp ha).1
      simp only
      rw [less_iff (val_ok c.ok s).1 ra.2.1, ra.1]; rfl
  have main := iterate (stepC t) (improve t) (fun _ => rfl) (fun _ _ => rfl) (fun f => Like t t.acts_ f0 f ∧ Valid t f ∧ Proper t f)
    (fun f ⟨lk, v, p⟩ => by
      have lk' : Like t t.acts_ f0 (stepC t f) := ⟨better_len, fun s => (better_none lk.len s).symm.trans (lk.dom s), fun s k hk => by
        rcases better_some lk.len (hb f v s).1 (hb f v s).2 hk with h | h
        · exact lk.acts s k h
        · exact h.1⟩
      have v' : Valid t (stepC t f) := fun s k hk => by
        refine ⟨lk'.acts s k hk, ?_⟩
        cases e : told f s with
        | none =>
          have h2 : told (stepC t f) s = none := (better_none lk.len s).mp e
          rw [h2] at hk; cases hk
        | some i => exact (v s i e).2
      refine ⟨lk', v', ?_⟩
      exact (chance_step w v v' (better_none lk.len) p (fun s j hj => by
        rcases better_some lk.len (hb f v s).1 (hb f v s).2 hj with h | h
        · exact .inl h
        · exact .inr ((lt_div (w.act (mem_acts_.mp h.1).1).whole_pos).mp h.2))).1)
    (fun f => sumL (List.range t.states) (cv t f)) (prods ((List.range t.states).map (optOf t.acts_ f0))) (fun f h => h.1.mem)
    (fun f ⟨lk, v, p⟩ ne => by
      have lk' : Like t t.acts_ f0 (stepC t f) := ⟨better_len, fun s => (better_none lk.len s).symm.trans (lk.dom s), fun s k hk => by
        rcases better_some lk.len (hb f v s).1 (hb f v s).2 hk with h | h
        · exact lk.acts s k h
        · exact h.1⟩
      have v' : Valid t (stepC t f) := fun s k hk => by
        refine ⟨lk'.acts s k hk, ?_⟩
        cases e : told f s with
        | none =>
          have h2 : told (stepC t f) s = none := (better_none lk.len s).mp e
          rw [h2] at hk; cases hk
        | some i => exact (v s i e).2
      have st := chance_step w v v' (better_none lk.len) p (fun s j hj => by
        rcases better_some lk.len (hb f v s).1 (hb f v s).2 hj with h | h
        · exact .inl h
        · exact .inr ((lt_div (w.act (mem_acts_.mp h.1).1).whole_pos).mp h.2))
      obtain ⟨s, j, hj, hn⟩ := ne_told (by rw [lk.len, lk'.len]) ne (better_none lk.len)
      exact sumL_lt (fun u _ => st.2.1 u) ⟨s, by have := told_lt hj; rw [lk'.len] at this; simpa using this, st.2.2 s j hj hn⟩)
    ENOUGH f0 ⟨⟨len0, fun _ => Iff.rfl, fun s k h => (v0 s k h).1⟩, v0, p0⟩
    (Nat.le_trans (List.length_filter_le _ _) (Like.few w fun _ => Nat.le_refl _))
  obtain ⟨⟨lk, v, p⟩, fix⟩ := main
  refine ⟨_, rfl, v, p, lk.dom, fun s k hk i hi => ?_⟩
  have wp := (w.act (mem_acts_.mp hi).1).whole_pos
  have wk := (w.act (valid_lt v hk)).whole_pos
  have := better_fix lk.len (hb _ v s).1 (hb _ v s).2 fix hk ((eq_div wk).mpr ((chances_by w v).some s k (v s k hk).2 (p s k hk) hk).symm) i hi
  exact (div_le wp).mp this
/-- the best chances, as numbers -/
def bv (t : Task) (s : Nat) : Rat := R (val (chances t) s)
structure BestC (t : Task) (f : Rule) : Prop where
  valid : Valid t f
  opt : ∀ s, t.done s = false → ∀ k ∈ t.acts_ s, wsum (t.act k).outs (cv t f) ≤ cv t f s * whole (t.act k).outs
theorem hits_cl {t : Task} {f : Rule} (v : Valid t f) {s : Nat} (h : Hits (fo t f) (Goal t) s) : Cl t (fun _ _ => true) s := by
  induction h with
  | here h => exact ⟨0, h⟩
  | @step s x hx _ ih =>
    obtain ⟨n, hn⟩ := ih
    unfold fo at hx
    split at hx
    · rename_i k hk
      exact ⟨n + 1, .inr ⟨k, (v s k hk).1, rfl, x, hx, hn⟩⟩
    · simp at hx
theorem ruleBy_len {t : Task} {good : Nat → Nat → Bool} : (ruleBy t good).length = t.states := by unfold ruleBy; simp
theorem ruleBy_valid {t : Task} (w : Wf t) {good : Nat → Nat → Bool} : Valid t (ruleBy t good) := fun s k h => by
  have := ruleBy_some w h
  exact ⟨this.2.2.1, this.2.1⟩
theorem ruleBy_proper {t : Task} (w : Wf t) {good : Nat → Nat → Bool} : Proper t (ruleBy t good) := fun s k h => by
  obtain ⟨_, _, _, _, n, hl, _, _⟩ := ruleBy_some w h
  exact ruleBy_hits w _ _ hl.1
/-- a rule over all states that may come there, which no act betters there, is best -/
theorem bestC_of {t : Task} {f : Rule} (w : Wf t) (v : Valid t f) (dom : ∀ s, told f s = none → t.done s = true ∨ ¬ Cl t (fun _ _ => true) s)
    (h : ∀ s k, told f s = some k → ∀ i ∈ t.acts_ s, wsum (t.act i).outs (cv t f) ≤ cv t f s * whole (t.act i).outs) : BestC t f := by
  refine ⟨v, fun s d i hi => ?_⟩
  cases e : told f s with
  | some k => exact h s k e i hi
  | none =>
    have c := chances_by w v
    rcases dom s e with x | x
    · rw [d] at x; cases x
    · have z : wsum (t.act i).outs (cv t f) = wsum (t.act i).outs (fun _ => 0) := wsum_congr fun y hy => by
        have ny : ¬ Cl t (fun _ _ => true) y.1 := fun ⟨n, hn⟩ => x ⟨n + 1, .inr ⟨i, hi, rfl, y, hy, hn⟩⟩
        refine c.none _ ?_ (fun hh => ny (hits_cl v hh))
        cases dy : t.done y.1 with
        | false => rfl
        | true => exact absurd ⟨0, dy⟩ ny
      rw [z, wsum_const, c.none s d (none_hits e d)]
      grind
/-- **The best chances are those of a rule that no act betters**, and they are one. -/
theorem chances_best {t : Task} (w : Wf t) : ∃ f, BestC t f ∧ chances t = chancesBy t f ∧ bv t = cv t f := by
  obtain ⟨f, hf, v, p, dom, h⟩ := improve_spec w (ruleBy t fun _ _ => true) ruleBy_len (ruleBy_valid w) (ruleBy_proper w)
  have e : chances t = chancesBy t f := by unfold chances; rw [hf]
  exact ⟨f, bestC_of w v (fun s hs => ruleBy_none w ((dom s).mp hs)) h, e, by funext s; unfold bv cv; rw [e]⟩
theorem bestC_uniq {t : Task} (w : Wf t) {f g : Rule} (bf : BestC t f) (bg : BestC t g) : cv t f = cv t g := by
  funext s
  have a := chance_opt w bf.valid bg.valid bf.opt s
  have b := chance_opt w bg.valid bf.valid bg.opt s
  grind
theorem bestC_bv {t : Task} (w : Wf t) {f : Rule} (bf : BestC t f) : bv t = cv t f := by
  obtain ⟨g, bg, _, e⟩ := chances_best w
  rw [e]; exact bestC_uniq w bg bf
theorem chances_ok {t : Task} (w : Wf t) : AllOk (chances t) := by
  obtain ⟨g, bg, e, _⟩ := chances_best w
  rw [e]; exact (chances_by w bg.valid).ok
end By

/-! ByD: the best costs of the specification. -/
namespace By
open Pn08
def sureV (t : Task) (s : Nat) : Prop := bv t s = 1
theorem same_bv {t : Task} (w : Wf t) (s : Nat) : Q.same (val (chances t) s) one = true ↔ bv t s = 1 := by
  rw [same_iff (val_ok (chances_ok w) s).1 ok_one.1, R_one]; rfl
theorem mem_sureActs {t : Task} (w : Wf t) {s k : Nat} : k ∈ sureActs t (chances t) s ↔ k ∈ t.acts_ s ∧ bv t s = 1 ∧ ∀ x ∈ (t.act k).outs, bv t x.1 = 1 := by
  unfold sureActs
  simp only [List.mem_filter, Bool.and_eq_true, List.all_eq_true, same_bv w]
def goodK (t : Task) (s k : Nat) : Bool := (sureActs t (chances t) s).contains k
theorem goodK_iff {t : Task} {s k : Nat} : goodK t s k = true ↔ k ∈ sureActs t (chances t) s := by unfold goodK; simp
/-- where it can be made sure one may come there by sure acts -/
theorem sure_cl {t : Task} (w : Wf t) {s : Nat} (h : bv t s = 1) : Cl t (goodK t) s := by
  obtain ⟨f, bf, _, e⟩ := chances_best w
  have c := chances_by w bf.valid
  have key : ∀ s, Hits (fo t f) (Goal t) s → bv t s = 1 → Cl t (goodK t) s := by
    intro s hh
    induction hh with
    | here h => intro _; exact ⟨0, h⟩
    | @step s x hx hh ih =>
      intro h1
      by_cases d : t.done s = true
      · exact ⟨0, d⟩
      · have d' : t.done s = false := by simpa using d
        have hs : Hits (fo t f) (Goal t) s := .step hx hh
        obtain ⟨k, hk⟩ := hs.ne d'
        rw [fo_some hk] at hx
        have nx := sure_next w bf.valid c d' (by rw [← e]; exact h1) hk
        rw [← e] at nx
        obtain ⟨n, hn⟩ := ih (nx x hx)
        exact ⟨n + 1, .inr ⟨k, (bf.valid s k hk).1, goodK_iff.mpr ((mem_sureActs w).mpr ⟨(bf.valid s k hk).1, h1, nx⟩), x, hx, hn⟩⟩
  by_cases d : t.done s = true
  · exact ⟨0, d⟩
  · exact key s (one_hits c (by simpa using d) (by rw [← e]; exact h)) h
/-- rules over just the sure states, by sure acts -/
structure SureRule (t : Task) (f : Rule) : Prop where
  valid : Valid t f
  acts : ∀ s k, told f s = some k → k ∈ sureActs t (chances t) s
  dom : ∀ s, told f s = none ↔ t.done s = true ∨ bv t s ≠ 1
theorem SureRule.inside {t : Task} (w : Wf t) {f : Rule} (h : SureRule t f) : Inside t f := by
  intro s k hk x hx
  have := ((mem_sureActs w).mp (h.acts s k hk)).2.2 x hx
  cases e : told f x.1 with
  | some j => exact .inr ⟨j, rfl⟩
  | none =>
    rcases (h.dom x.1).mp e with d | d
    · exact .inl d
    · exact absurd this d
theorem first_sure {t : Task} (w : Wf t) : SureRule t (ruleBy t (goodK t)) := by
  refine ⟨ruleBy_valid w, fun s k h => goodK_iff.mp (ruleBy_some w h).2.2.2.1, fun s => ⟨fun h => ?_, fun h => ?_⟩⟩
  · rcases ruleBy_none w h with d | d
    · exact .inl d
    · exact .inr fun c => d (sure_cl w c)
  · cases e : told (ruleBy t (goodK t)) s with
    | none => rfl
    | some k =>
      have rs := ruleBy_some w e
      rcases h with d | d
      · rw [rs.2.1] at d; cases d
      · exact absurd ((mem_sureActs w).mp (goodK_iff.mp rs.2.2.2.1)).2.1 d
def costV (t : Task) (v : Nat → Rat) (k : Nat) : Rat := (t.act k).cost + wsum (t.act k).outs v / whole (t.act k).outs
theorem R_costK {t : Task} (w : Wf t) {e : Nat → Q} (he : ∀ s, Ok (e s)) {k : Nat} (hk : k < t.acts.length) :
    R ((Q.of ((t.act k).cost : Int)).plus (total ((t.act k).chances.map fun x => x.2.times (e x.1)))) = costV t (fun s => R (e s)) k ∧
    Ok ((Q.of ((t.act k).cost : Int)).plus (total ((t.act k).chances.map fun x => x.2.times (e x.1)))) := by
  have m := R_mean (w.act hk) e he
  have p := R_plus (ok_of ((t.act k).cost : Int)).1 m.2.1
  refine ⟨p.1.trans ?_, p.2⟩
  rw [R_of, m.1]
  unfold costV
  simp only [Rat.intCast_natCast]
def stepK (t : Task) (f : Rule) : Rule := betterRule t f (sureActs t (chances t)) Q.less (ce t f)
  fun k => (Q.of ((t.act k).cost : Int)).plus (total ((t.act k).chances.map fun x => x.2.times (ce t f x.1)))
theorem cost_lt {W a b c : Rat} (h : 0 < W) : c + b / W < a ↔ b + c * W < a * W := by
  have e : (c + b / W) * W = b + c * W := by grind
  rw [← Rat.mul_lt_mul_right h, e]
theorem neg_lt {a b : Rat} : -a < -b ↔ b < a := by grind
/-- **The rule that cheapen ends with.** -/
theorem cheapen_spec {t : Task} (w : Wf t) (f0 : Rule) (len0 : f0.length = t.states) (s0 : SureRule t f0) (p0 : Sure t f0) :
    ∃ f, cheapen t (chances t) ENOUGH f0 = f ∧ SureRule t f ∧ Sure t f ∧
      ∀ s k, told f s = some k → ∀ i ∈ sureActs t (chances t) s, kv t f s * whole (t.act i).outs ≤ wsum (t.act i).outs (kv t f) + (t.act i).cost * whole (t.act i).outs := by
  have la : ∀ {s a}, a ∈ sureActs t (chances t) s → a < t.acts.length := fun h => (mem_acts_.mp ((mem_sureActs w).mp h).1).1
  have hb : ∀ f, Valid t f → ∀ s, (∀ a ∈ sureActs t (chances t) s, ∀ b ∈ sureActs t (chances t) s,
        Q.less ((Q.of ((t.act a).cost : Int)).plus (total ((t.act a).chances.map fun x => x.2.times (ce t f x.1)))) ((Q.of ((t.act b).cost : Int)).plus (total ((t.act b).chances.map fun x => x.2.times (ce t f x.1)))) = true
        ↔ - costV t (kv t f) b < - costV t (kv t f) a) ∧
      (∀ a ∈ sureActs t (chances t) s, Q.less ((Q.of ((t.act a).cost : Int)).plus (total ((t.act a).chances.map fun x => x.2.times (ce t f x.1)))) (ce t f s) = true ↔ - kv t f s < - costV t (kv t f) a) := by
    intro f v s
    have k := costs_by w v
    refine ⟨fun a ha b hb => ?_, fun a ha => ?_⟩
    · have ra := R_costK w k.ok (la ha)
      have rb := R_costK w k.ok (la hb)
      rw [less_iff ra.2.1 rb.2.1, ra.1, rb.1, neg_lt]; rfl
    · have ra := R_costK w k.ok (la ha)
      rw [less_iff ra.2.1 (k.ok s).1, ra.1, neg_lt]; rfl
  have keep : ∀ f, f.length = t.states → SureRule t f → SureRule t (stepK t f) ∧ (∀ s, told f s = none ↔ told (stepK t f) s = none) ∧
      ∀ s j, told (stepK t f) s = some j → told f s = some j ∨ wsum (t.act j).outs (kv t f) + (t.act j).cost * whole (t.act j).outs < kv t f s * whole (t.act j).outs := by
    intro f len sr
    have nn : ∀ s, told f s = none ↔ told (stepK t f) s = none := better_none len
    have ac : ∀ s k, told (stepK t f) s = some k → k ∈ sureActs t (chances t) s := fun s k hk => by
      rcases better_some len (hb f sr.valid s).1 (hb f sr.valid s).2 hk with h | h
      · exact sr.acts s k h
      · exact h.1
    refine ⟨⟨fun s k hk => ⟨((mem_sureActs w).mp (ac s k hk)).1, ?_⟩, ac, fun s => (nn s).symm.trans (sr.dom s)⟩, nn, fun s j hj => ?_⟩
    · cases e : told f s with
      | none => rw [(nn s).mp e] at hk; cases hk
      | some i => exact (sr.valid s i e).2
    · rcases better_some len (hb f sr.valid s).1 (hb f sr.valid s).2 hj with h | h
      · exact .inl h
      · exact .inr ((cost_lt (w.act (la h.1)).whole_pos).mp (neg_lt.mp h.2))
  have main := iterate (stepK t) (cheapen t (chances t)) (fun _ => rfl) (fun _ _ => rfl) (fun f => Like t (sureActs t (chances t)) f0 f ∧ SureRule t f ∧ Sure t f)
    (fun f ⟨lk, sr, p⟩ => by
      obtain ⟨sr', nn, bt⟩ := keep f lk.len sr
      refine ⟨⟨better_len, fun s => (nn s).symm.trans (lk.dom s), sr'.acts⟩, sr', ?_⟩
      exact (cost_step w sr.valid sr'.valid nn p (sr'.inside w) bt).1)
    (fun f => sumL (List.range t.states) (fun s => - kv t f s)) (prods ((List.range t.states).map (optOf (sureActs t (chances t)) f0))) (fun f h => h.1.mem)
    (fun f ⟨lk, sr, p⟩ ne => by
      obtain ⟨sr', nn, bt⟩ := keep f lk.len sr
      have st := cost_step w sr.valid sr'.valid nn p (sr'.inside w) bt
      have len' : (stepK t f).length = t.states := better_len
      obtain ⟨s, j, hj, hn⟩ := ne_told (by rw [lk.len, len']) ne nn
      exact sumL_lt (fun u _ => by have := st.2.1 u; grind) ⟨s, by have := told_lt hj; rw [len'] at this; simpa using this, by have := st.2.2 s j hj hn; grind⟩)
    ENOUGH f0 ⟨⟨len0, fun _ => Iff.rfl, s0.acts⟩, s0, p0⟩
    (Nat.le_trans (List.length_filter_le _ _) (Like.few w fun _ => List.length_filter_le _ _))
  obtain ⟨⟨lk, sr, p⟩, fix⟩ := main
  refine ⟨_, rfl, sr, p, fun s k hk i hi => ?_⟩
  have wp := (w.act (la hi)).whole_pos
  have wk := (w.act (valid_lt sr.valid hk)).whole_pos
  have same : - costV t (kv t (cheapen t (chances t) ENOUGH f0)) k = - kv t (cheapen t (chances t) ENOUGH f0) s := by
    have := (costs_by w sr.valid).some s k (sr.valid s k hk).2 (p s k hk) hk
    unfold costV
    have e : kv t (cheapen t (chances t) ENOUGH f0) s = (kv t (cheapen t (chances t) ENOUGH f0) s * whole (t.act k).outs) / whole (t.act k).outs := by grind
    rw [e, this]; grind
  have := better_fix lk.len (hb _ sr.valid s).1 (hb _ sr.valid s).2 fix hk same i hi
  have h2 := (cost_lt (a := kv t (cheapen t (chances t) ENOUGH f0) s) (b := wsum (t.act i).outs (kv t (cheapen t (chances t) ENOUGH f0))) (c := (t.act i).cost) wp)
  unfold costV at this
  grind
structure BestK (t : Task) (f : Rule) : Prop where
  rule : SureRule t f
  sure : Sure t f
  opt : ∀ s k, told f s = some k → ∀ i ∈ sureActs t (chances t) s, kv t f s * whole (t.act i).outs ≤ wsum (t.act i).outs (kv t f) + (t.act i).cost * whole (t.act i).outs
/-- **The best costs are those of a rule that no sure act betters.** -/
theorem costs_best {t : Task} (w : Wf t) : ∃ f, BestK t f ∧ costs t = costsBy t f := by
  have s0 := first_sure w
  have p0 : Sure t (ruleBy t (goodK t)) := sure_of w s0.valid (s0.inside w) (ruleBy_proper w)
  obtain ⟨f, hf, sr, p, h⟩ := cheapen_spec w _ ruleBy_len s0 p0
  refine ⟨f, ⟨sr, p, h⟩, ?_⟩
  unfold costs
  rw [← hf]; rfl
theorem bestK_uniq {t : Task} (w : Wf t) {f g : Rule} (bf : BestK t f) (bg : BestK t g) : kv t f = kv t g := by
  funext s
  by_cases c : t.done s = true ∨ bv t s ≠ 1
  · have z : ∀ f, BestK t f → kv t f s = 0 := fun f b => by
      have kf := costs_by w b.rule.valid
      rcases c with d | d
      · exact kf.done s d
      · by_cases dd : t.done s = true
        · exact kf.done s dd
        · refine kf.none s fun h => d ?_
          obtain ⟨g, bg, _, e⟩ := chances_best w
          have a := chance_opt w bg.valid b.rule.valid bg.opt s
          have bb := ((chances_by w bg.valid).bounds w bg.valid s).2.1
          rw [e]; grind
    rw [z f bf, z g bg]
  · have tf : ∃ k, told f s = some k := by
      cases e : told f s with
      | some k => exact ⟨k, rfl⟩
      | none => exact absurd ((bf.rule.dom s).mp e) c
    have tg : ∃ k, told g s = some k := by
      cases e : told g s with
      | some k => exact ⟨k, rfl⟩
      | none => exact absurd ((bg.rule.dom s).mp e) c
    obtain ⟨kf, hkf⟩ := tf
    obtain ⟨kg, hkg⟩ := tg
    have other : ∀ {f g}, BestK t f → BestK t g → ∀ s k, told g s = some k → ∃ j, told f s = some j := fun {f g} bf bg s k h => by
      cases e : told f s with
      | some j => exact ⟨j, rfl⟩
      | none => rw [(bg.rule.dom s).mpr ((bf.rule.dom s).mp e)] at h; cases h
    have a := cost_opt w bf.rule.valid bg.rule.valid bg.sure (fun s k h => by
      obtain ⟨j, hj⟩ := other bf bg s k h
      exact bf.opt s j hj k (bg.rule.acts s k h)) s kg hkg
    have b := cost_opt w bg.rule.valid bf.rule.valid bf.sure (fun s k h => by
      obtain ⟨j, hj⟩ := other bg bf s k h
      exact bg.opt s j hj k (bf.rule.acts s k h)) s kf hkf
    grind
/-- what the specification's costs tell -/
theorem costs_told {t : Task} (w : Wf t) {g : Rule} (bg : BestK t g) (s : Nat) :
    (((costs t).getD s none).isSome = true ↔ bv t s = 1) ∧ Ok (((costs t).getD s none).getD zero) ∧ R (((costs t).getD s none).getD zero) = kv t g s := by
  obtain ⟨f, bf, e⟩ := costs_best w
  have kf := costs_by w bf.rule.valid
  rw [e]
  refine ⟨(kf.sure s).trans ⟨fun h => ?_, fun h => ?_⟩, kf.ok s, ?_⟩
  · obtain ⟨g, bg, _, e⟩ := chances_best w
    have a := chance_opt w bg.valid bf.rule.valid bg.opt s
    have bb := ((chances_by w bg.valid).bounds w bg.valid s).2.1
    rw [e]; grind
  · by_cases d : t.done s = true
    · exact (chances_by w bf.rule.valid).done s d
    · cases e : told f s with
      | some k => exact bf.sure s k e
      | none =>
        rcases (bf.rule.dom s).mp e with x | x
        · exact absurd x d
        · exact absurd h x
  · show kv t f s = kv t g s
    rw [bestK_uniq w bf bg]
end By

/-! ByE: elimination without division, over whole numbers. -/
namespace By
def dot : List Int → (Nat → Rat) → Rat
  | [], _ => 0
  | a :: l, z => (a : Rat) * z 0 + dot l (fun j => z (j + 1))
def withoutM (row chosen : List Int) (p q : Int) : List Int := (row.zip chosen).map fun x => x.1 * p - x.2 * q
theorem dot_without (p q : Int) : ∀ (row chosen : List Int) (z : Nat → Rat), row.length = chosen.length → dot (withoutM row chosen p q) z = p * dot row z - q * dot chosen z
  | [], [], z, _ => by simp [withoutM, dot]; grind
  | [], _ :: _, _, e => by simp at e
  | _ :: _, [], _, e => by simp at e
  | a :: r, b :: c, z, e => by
    have ih := dot_without p q r c (fun j => z (j + 1)) (by simpa using e)
    unfold withoutM at ih ⊢
    simp only [List.zip_cons_cons, List.map_cons, dot, ih, Rat.intCast_sub, Rat.intCast_mul]
    grind
theorem len_without {p q : Int} {row chosen : List Int} (e : row.length = chosen.length) : (withoutM row chosen p q).length = row.length := by
  unfold withoutM; simp; omega
theorem get_without {p q : Int} {row chosen : List Int} (e : row.length = chosen.length) {j : Nat} (h : j < row.length) :
    (withoutM row chosen p q).getD j 0 = row.getD j 0 * p - chosen.getD j 0 * q := by
  unfold withoutM
  have h2 : j < chosen.length := by omega
  have e1 : (row.zip chosen)[j]? = some (row[j], chosen[j]) := by
    rw [List.getElem?_zip_eq_some]; exact ⟨List.getElem?_eq_getElem h, List.getElem?_eq_getElem h2⟩
  rw [List.getD_eq_getElem?_getD, List.getElem?_map, e1, List.getD_eq_getElem?_getD, List.getD_eq_getElem?_getD, List.getElem?_eq_getElem h, List.getElem?_eq_getElem h2]
  rfl
theorem dot_pos_diag : ∀ (row : List Int) (z : Nat → Rat) (i : Nat), i < row.length → (∀ j, j < row.length → j ≠ i → (row.getD j 0 : Rat) * z j ≤ 0) → 0 < dot row z → 0 < (row.getD i 0 : Rat) * z i := by
  intro row
  have neg : ∀ (row : List Int) (z : Nat → Rat), (∀ j, j < row.length → (row.getD j 0 : Rat) * z j ≤ 0) → dot row z ≤ 0 := by
    intro row
    induction row with
    | nil => intro z _; simp [dot]
    | cons a l ih =>
      intro z h
      have h0 := h 0 (by simp)
      simp at h0
      have := ih (fun j => z (j + 1)) (fun j hj => by simpa using h (j + 1) (by simpa using hj))
      simp only [dot]; grind
  induction row with
  | nil => intro z i h; simp at h
  | cons a l ih =>
    intro z i hi h hp
    simp only [dot] at hp
    cases i with
    | zero =>
      have := neg l (fun j => z (j + 1)) (fun j hj => by simpa using h (j + 1) (by simpa using hj) (by omega))
      simp; grind
    | succ i =>
      have h0 := h 0 (by simp) (by omega)
      simp at h0
      have := ih (fun j => z (j + 1)) i (by simpa using hi) (fun j hj ne => by simpa using h (j + 1) (by simpa using hj) (by omega)) (by grind)
      simpa using this
theorem dot_one : ∀ (row : List Int) (z : Nat → Rat) (i : Nat), i < row.length → (∀ j, j < row.length → j ≠ i → (row.getD j 0 : Rat) * z j = 0) → dot row z = (row.getD i 0 : Rat) * z i := by
  intro row
  have nul : ∀ (row : List Int) (z : Nat → Rat), (∀ j, j < row.length → (row.getD j 0 : Rat) * z j = 0) → dot row z = 0 := by
    intro row
    induction row with
    | nil => intro z _; simp [dot]
    | cons a l ih =>
      intro z h
      have h0 := h 0 (by simp)
      simp at h0
      have := ih (fun j => z (j + 1)) (fun j hj => by simpa using h (j + 1) (by simpa using hj))
      simp only [dot]; grind
  induction row with
  | nil => intro z i h; simp at h
  | cons a l ih =>
    intro z i hi h
    simp only [dot]
    cases i with
    | zero =>
      have := nul l (fun j => z (j + 1)) (fun j hj => by simpa using h (j + 1) (by simpa using hj) (by omega))
      simp; grind
    | succ i =>
      have h0 := h 0 (by simp) (by omega)
      simp at h0
      have := ih (fun j => z (j + 1)) i (by simpa using hi) (fun j hj ne => by simpa using h (j + 1) (by simpa using hj) (by omega))
      simp; grind
theorem dot_add : ∀ (l : List Int) (y z : Nat → Rat), dot l (fun j => y j + z j) = dot l y + dot l z
  | [], _, _ => by simp only [dot]; grind
  | q :: l, y, z => by
    simp only [dot]
    rw [dot_add l (fun j => y (j + 1)) (fun j => z (j + 1))]
    grind
/-- one place taken out of all other rows -/
def elimM (rows : List (List Int)) (place : Nat) : List (List Int) :=
  rows.mapIdx fun other row => if other = place then row else withoutM row (rows.getD place []) ((rows.getD place []).getD place 0) (row.getD place 0)
def solvedM (rows : List (List Int)) : List (List Int) := (List.range rows.length).foldl elimM rows
/-- the equations behind the first c places -/
structure Elim (N c : Nat) (h x : Nat → Rat) (bits : Nat) (rows : List (List Int)) : Prop where
  len : rows.length = N
  row : ∀ i, i < N → (rows.getD i []).length = N + 1
  zero : ∀ i j, i < N → j < c → i ≠ j → (rows.getD i []).getD j 0 = 0
  off : ∀ i j, i < N → j < N → i ≠ j → (rows.getD i []).getD j 0 ≤ 0
  pos : ∀ i, i < N → 0 < dot (rows.getD i []) h
  sol : ∀ i, i < N → dot (rows.getD i []) x = 0
  fits : ∀ i j, i < N → j < N + 1 → ((rows.getD i []).getD j 0).natAbs < 2 ^ bits
theorem Elim.diag {N c bits : Nat} {h x : Nat → Rat} {rows : List (List Int)} (E : Elim N c h x bits rows) (hp : ∀ j, j < N → 0 < h j) (hN : h N = 0) {i : Nat} (hi : i < N) : 0 < (rows.getD i []).getD i 0 := by
  have d := dot_pos_diag (rows.getD i []) h i (by rw [E.row i hi]; omega) (fun j hj ne => by
    rw [E.row i hi] at hj
    by_cases e : j = N
    · rw [e, hN]; grind
    · have o := E.off i j hi (by omega) (by omega)
      have hj' := hp j (by omega)
      have o' : (((rows.getD i []).getD j 0 : Int) : Rat) ≤ ((0 : Int) : Rat) := Rat.intCast_le_intCast.mpr o
      have := Rat.mul_nonneg (show 0 ≤ - (((rows.getD i []).getD j 0 : Int) : Rat) by simp at o'; grind) (show 0 ≤ h j by grind)
      grind) (E.pos i hi)
  have hh := hp i hi
  refine Int.lt_of_not_ge fun c => ?_
  have c' : (((rows.getD i []).getD i 0 : Int) : Rat) ≤ ((0 : Int) : Rat) := Rat.intCast_le_intCast.mpr c
  have := Rat.mul_nonneg (show 0 ≤ - (((rows.getD i []).getD i 0 : Int) : Rat) by simp at c'; grind) (show 0 ≤ h i by grind)
  grind
theorem elim_get {rows : List (List Int)} {place i : Nat} (hi : i < rows.length) : (elimM rows place).getD i [] =
    if i = place then rows.getD i [] else withoutM (rows.getD i []) (rows.getD place []) ((rows.getD place []).getD place 0) ((rows.getD i []).getD place 0) := by
  unfold elimM
  rw [List.getD_eq_getElem?_getD, List.getElem?_mapIdx, List.getElem?_eq_getElem hi]
  simp [List.getD_eq_getElem?_getD, List.getElem?_eq_getElem hi]
theorem mul_bits {a p b q : Int} {bits : Nat} (ha : a.natAbs < 2 ^ bits) (hp : p.natAbs < 2 ^ bits) (hb : b.natAbs < 2 ^ bits) (hq : q.natAbs < 2 ^ bits) : (a * p - b * q).natAbs < 2 ^ (2 * bits + 1) := by
  have h1 : (a * p).natAbs < 2 ^ (2 * bits) := by
    rw [Int.natAbs_mul, Nat.two_mul, Nat.pow_add]; exact Nat.mul_lt_mul'' ha hp
  have h2 : (b * q).natAbs < 2 ^ (2 * bits) := by
    rw [Int.natAbs_mul, Nat.two_mul, Nat.pow_add]; exact Nat.mul_lt_mul'' hb hq
  have e : 2 ^ (2 * bits + 1) = 2 * 2 ^ (2 * bits) := by rw [Nat.pow_succ]; omega
  omega
theorem Elim.step {N c bits : Nat} {h x : Nat → Rat} {rows : List (List Int)} (E : Elim N c h x bits rows) (hp : ∀ j, j < N → 0 < h j) (hN : h N = 0) (hc : c < N) : Elim N (c + 1) h x (2 * bits + 1) (elimM rows c) := by
  have dc := E.diag hp hN hc
  have hl := E.len
  have lenE : (elimM rows c).length = N := by unfold elimM; rw [List.length_mapIdx]; exact hl
  have big : 2 ^ bits ≤ 2 ^ (2 * bits + 1) := Nat.pow_le_pow_right (by decide) (by omega)
  refine ⟨lenE, fun i hi => ?_, fun i j hi hj ne => ?_, fun i j hi hj ne => ?_, fun i hi => ?_, fun i hi => ?_, fun i j hi hj => ?_⟩
  · rw [elim_get (by omega)]
    by_cases e : i = c
    · rw [if_pos e]; exact E.row i hi
    · rw [if_neg e, len_without (by rw [E.row i hi, E.row c hc])]; exact E.row i hi
  · rw [elim_get (by omega)]
    by_cases e : i = c
    · rw [if_pos e]; exact E.zero i j hi (by omega) ne
    · rw [if_neg e, get_without (by rw [E.row i hi, E.row c hc]) (by rw [E.row i hi]; omega)]
      by_cases ej : j = c
      · subst ej; rw [Int.mul_comm]; omega
      · rw [E.zero i j hi (by omega) ne, E.zero c j hc (by omega) (by omega)]; simp
  · rw [elim_get (by omega)]
    by_cases e : i = c
    · rw [if_pos e]; exact E.off i j hi hj ne
    · rw [if_neg e, get_without (by rw [E.row i hi, E.row c hc]) (by rw [E.row i hi]; omega)]
      by_cases ej : j = c
      · subst ej; rw [Int.mul_comm]; omega
      · have a1 := E.off i j hi hj ne
        have a2 := E.off c j hc hj (by omega)
        have a3 := E.off i c hi hc e
        have m1 : 0 ≤ (-((rows.getD i []).getD j 0)) * (rows.getD c []).getD c 0 := Int.mul_nonneg (by omega) (by omega)
        have m2 : 0 ≤ (-((rows.getD c []).getD j 0)) * (-((rows.getD i []).getD c 0)) := Int.mul_nonneg (by omega) (by omega)
        rw [Int.neg_mul] at m1
        rw [Int.neg_mul_neg] at m2
        omega
  · rw [elim_get (by omega)]
    by_cases e : i = c
    · rw [if_pos e]; exact E.pos i hi
    · rw [if_neg e, dot_without _ _ _ _ _ (by rw [E.row i hi, E.row c hc])]
      have p1 := E.pos i hi
      have p2 := E.pos c hc
      have a3 := E.off i c hi hc e
      have dc' : ((0 : Int) : Rat) < (((rows.getD c []).getD c 0 : Int) : Rat) := Rat.intCast_lt_intCast.mpr dc
      have a3' : (((rows.getD i []).getD c 0 : Int) : Rat) ≤ ((0 : Int) : Rat) := Rat.intCast_le_intCast.mpr a3
      simp only [Rat.intCast_zero] at dc' a3'
      have m1 := Rat.mul_pos dc' p1
      have m2 := Rat.mul_nonneg (show 0 ≤ - (((rows.getD i []).getD c 0 : Int) : Rat) by grind) (show 0 ≤ dot (rows.getD c []) h by grind)
      grind
  · rw [elim_get (by omega)]
    by_cases e : i = c
    · rw [if_pos e]; exact E.sol i hi
    · rw [if_neg e, dot_without _ _ _ _ _ (by rw [E.row i hi, E.row c hc]), E.sol i hi, E.sol c hc]; grind
  · rw [elim_get (by omega)]
    by_cases e : i = c
    · rw [if_pos e]; exact Nat.lt_of_lt_of_le (E.fits i j hi hj) big
    · rw [if_neg e, get_without (by rw [E.row i hi, E.row c hc]) (by rw [E.row i hi]; omega)]
      exact mul_bits (E.fits i j hi hj) (E.fits c c hc (by omega)) (E.fits c j hc hj) (E.fits i c hi (by omega))
def bitsAt : Nat → Nat → Nat
  | b, 0 => b
  | b, c + 1 => 2 * bitsAt b c + 1
theorem Elim.upto {N bits : Nat} {h x : Nat → Rat} {rows : List (List Int)} (E : Elim N 0 h x bits rows) (hp : ∀ j, j < N → 0 < h j) (hN : h N = 0) : ∀ c, c ≤ N → Elim N c h x (bitsAt bits c) ((List.range c).foldl elimM rows)
  | 0, _ => E
  | c + 1, hc => by
    rw [List.range_succ, List.foldl_append]
    exact (Elim.upto E hp hN c (by omega)).step hp hN (by omega)
/-- **The rows at the end**: each tells its own unknown. -/
theorem Elim.last {N bits : Nat} {h x : Nat → Rat} {rows : List (List Int)} (E : Elim N N h x bits rows) (hx : x N = -1) {i : Nat} (hi : i < N) : (((rows.getD i []).getD i 0 : Int) : Rat) * x i = (((rows.getD i []).getD N 0 : Int) : Rat) := by
  have s := E.sol i hi
  have hr := E.row i hi
  have e : x = fun j => (if j = N then 0 else x j) + (if j = N then x j else 0) := by
    funext j; by_cases c : j = N <;> simp [c] <;> grind
  rw [e, dot_add, dot_one _ (fun j => if j = N then 0 else x j) i (by rw [hr]; omega) (fun j hj ne => by
      by_cases c : j = N
      · simp [c]
      · rw [if_neg c, E.zero i j hi (by rw [hr] at hj; omega) (by omega)]; grind),
    dot_one _ (fun j => if j = N then x j else 0) N (by rw [hr]; omega) (fun j hj ne => by rw [if_neg ne]; grind)] at s
  rw [if_neg (by omega), if_pos rfl, hx] at s
  grind
end By

/-! ByP: a rule's values by whole numbers. -/
namespace By
open Pn08
/-- sizes of a house as it can be -/
structure Sz (t : Task) : Prop where
  wf : Wf t
  states : t.states ≤ 6
  keys : ∀ a ∈ t.acts, (a.outs.map (·.1)).Nodup
  whole : ∀ a ∈ t.acts, a.whole ≤ 120
  price : ∀ a ∈ t.acts, a.cost ≤ 100
  goal : t.goal.Nodup
def wAt (o : Outs) (u : Nat) : Nat := (o.lookup u).getD 0
theorem wAt_sum : ∀ {o : Outs}, (o.map (·.1)).Nodup → ∀ u, ((wAt o u : Nat) : Rat) = wsum o (fun v => if v = u then 1 else 0)
  | [], _, u => by simp [wAt, wsum]
  | x :: o, nd, u => by
    rw [List.map_cons, List.nodup_cons] at nd
    have ih := wAt_sum nd.2 u
    simp only [wsum]
    unfold wAt at ih ⊢
    rw [List.lookup_cons]
    by_cases c : x.1 = u
    · have : wsum o (fun v => if v = u then 1 else 0) = 0 := by
        have : ∀ o : Outs, u ∉ o.map (·.1) → wsum o (fun v => if v = u then 1 else 0) = 0 := by
          intro o
          induction o with
          | nil => intro _; rfl
          | cons y o ih =>
            intro h
            simp only [List.map_cons, List.mem_cons, not_or] at h
            simp only [wsum]
            rw [ih h.2, if_neg (fun e => h.1 e.symm)]; grind
        exact this o (c ▸ nd.1)
      rw [this, if_pos c]
      have : (u == x.1) = true := by simp [c]
      rw [this]; simp; grind
    · have : (u == x.1) = false := by simpa using fun e : u = x.1 => c e.symm
      rw [this, if_neg c]
      simp only []
      rw [ih]; grind
def equationM (goal rate : Int) (wanted states : List Nat) (a : Act) : List Int :=
  ((states.map fun u => 0 - (wAt a.outs u : Int)).set (states.idxOf a.at_) ((states.map fun u => 0 - (wAt a.outs u : Int)).getD (states.idxOf a.at_) 0 + a.whole)) ++
    [goal * (wanted.map fun u => (wAt a.outs u : Int)).sum + rate * a.cost * a.whole]
theorem set_map {o : List Nat} (nd : o.Nodup) {s : Nat} (hs : s ∈ o) (g : Nat → Int) (W : Int) :
    (o.map g).set (o.idxOf s) ((o.map g).getD (o.idxOf s) 0 + W) = o.map fun u => g u + if u = s then W else 0 := by
  have hi : o.idxOf s < o.length := List.idxOf_lt_length_iff.mpr hs
  have hv : o[o.idxOf s] = s := List.getElem_idxOf hi
  have eg : (o.map g).getD (o.idxOf s) 0 = g s := by
    rw [List.getD_eq_getElem?_getD, List.getElem?_map, List.getElem?_eq_getElem hi, hv]; rfl
  rw [eg]
  refine List.ext_getElem (by simp) fun j h1 h2 => ?_
  simp only [List.length_set, List.length_map] at h1
  rw [List.getElem_set, List.getElem_map]
  by_cases e : o.idxOf s = j
  · subst e
    simp [hv]
  · have ne : ¬ o[j] = s := fun c => e ((List.getElem_inj nd).mp (hv.trans c.symm))
    rw [if_neg e]
    simp [ne]
theorem equationM_eq {goal rate : Int} {wanted o : List Nat} (nd : o.Nodup) {a : Act} (hs : a.at_ ∈ o) : equationM goal rate wanted o a =
    (o.map fun u => (0 - (wAt a.outs u : Int)) + if u = a.at_ then (a.whole : Int) else 0) ++ [goal * (wanted.map fun u => (wAt a.outs u : Int)).sum + rate * a.cost * a.whole] := by
  unfold equationM
  rw [set_map nd hs]
theorem dot_map (g : Nat → Int) (b : Int) (y : Nat → Rat) : ∀ (o : List Nat) (z : Nat → Rat), (∀ i (hi : i < o.length), y o[i] = z i) →
    dot (o.map g ++ [b]) z = sumL o (fun u => (g u : Rat) * y u) + b * z o.length
  | [], z, _ => by simp [dot, sumL]; grind
  | a :: o, z, hy => by
    have ih := dot_map g b y o (fun j => z (j + 1)) (fun i hi => hy (i + 1) (by simpa using hi))
    have h0 := hy 0 (by simp)
    simp only [List.getElem_cons_zero] at h0
    simp only [List.map_cons, List.cons_append, dot, sumL, List.length_cons, ih, h0]
    grind
theorem sumL_done {o : List Nat} (nd : o.Nodup) (F : Outs) (p : Nat → Bool) (hp : ∀ u, p u = true ↔ u ∈ o) : sumL o (fun u => wsum F (fun v => if v = u then 1 else 0)) = wsum F (fun v => if p v = true then 1 else 0) := by
  have := sumL_wsum (y := fun u => if p u = true then 1 else 0) nd (fun u hu => by rw [if_neg (fun c => hu ((hp u).mp c))]) F
  rw [← this]
  refine sumL_congr fun u hu => ?_
  rw [if_pos ((hp u).mpr hu)]; grind
theorem sum_cast (l : List Nat) (g : Nat → Int) : (((l.map g).sum : Int) : Rat) = sumL l (fun u => (g u : Rat)) := by
  induction l with
  | nil => simp [sumL]
  | cons a l ih => simp only [List.map_cons, List.sum_cons, Rat.intCast_add, sumL, ih]
/-- the row at some values: y on the states, c at the end -/
theorem dot_equation {t : Task} (z : Sz t) {goal rate : Int} {o : List Nat} (nd : o.Nodup) {a : Act} (ha : a ∈ t.acts) (hs : a.at_ ∈ o) (zz : Nat → Rat) :
    dot (equationM goal rate t.goal o a) zz = whole a.outs * pick o zz a.at_ - wsum a.outs (pick o zz)
      + (goal * wsum a.outs (fun v => if t.done v = true then 1 else 0) + rate * a.cost * whole a.outs) * zz o.length := by
  rw [equationM_eq nd hs, dot_map _ _ (pick o zz) o zz (fun i hi => pick_at nd hi)]
  have e1 : sumL o (fun u => ((((0 - (wAt a.outs u : Int)) + if u = a.at_ then (a.whole : Int) else 0 : Int)) : Rat) * pick o zz u)
      = sumL o (fun u => whole a.outs * ((if a.at_ = u then 1 else 0) * pick o zz u) - wsum a.outs (fun v => if v = u then 1 else 0) * pick o zz u) := by
    refine sumL_congr fun u _ => ?_
    rw [← wAt_sum (z.keys a ha) u, ← whole_cast]
    by_cases c : u = a.at_
    · subst c
      simp only [if_true, Rat.intCast_add, Rat.intCast_sub, Rat.intCast_natCast, Rat.intCast_zero]; grind
    · have c' : ¬ a.at_ = u := fun e => c e.symm
      simp only [c, c', if_false, Rat.intCast_add, Rat.intCast_sub, Rat.intCast_natCast, Rat.intCast_zero]; grind
  rw [e1, sumL_sub, sumL_smul, sumL_at nd (fun u hu => pick_out hu), sumL_wsum nd (fun u hu => pick_out hu)]
  have e2 : ((((t.goal.map fun u => (wAt a.outs u : Int)).sum : Int)) : Rat) = wsum a.outs (fun v => if t.done v = true then 1 else 0) := by
    rw [sum_cast, ← sumL_done z.goal a.outs t.done (fun u => done_iff)]
    refine sumL_congr fun u _ => ?_
    rw [Rat.intCast_natCast, wAt_sum (z.keys a ha) u]
  simp only [Rat.intCast_add, Rat.intCast_mul, e2, Rat.intCast_natCast, whole_cast]
/-- what a rule is worth: the goal where it is done, the rate times the cost on the way -/
structure IsVal (t : Task) (f : Rule) (goal rate : Int) (v : Nat → Rat) : Prop where
  done : ∀ s, t.done s = true → v s = goal
  none : ∀ s, t.done s = false → told f s = none → v s = 0
  some : ∀ s k, told f s = some k → v s * whole (t.act k).outs = wsum (t.act k).outs v + rate * (t.act k).cost * whole (t.act k).outs
/-- the states of a rule -/
structure Dom (f : Rule) (o : List Nat) : Prop where
  nd : o.Nodup
  mem : ∀ s, s ∈ o ↔ ∃ k, told f s = some k
def rowsM (t : Task) (f : Rule) (goal rate : Int) (o : List Nat) : List (List Int) := o.map fun s => match told f s with
  | some k => equationM goal rate t.goal o (t.act k)
  | none => []
/-- **The equations of a rule that may come there from all its states.** -/
theorem rows_elim {t : Task} (z : Sz t) {f : Rule} (vf : Valid t f) (pf : Proper t f) {goal rate : Int} (hg : goal.natAbs ≤ 1) (hr : rate.natAbs ≤ 1) {o : List Nat} (d : Dom f o) {v : Nat → Rat} (iv : IsVal t f goal rate v) :
    ∃ h : Nat → Rat, (∀ j, j < o.length → 0 < h j) ∧ h o.length = 0 ∧ Elim o.length 0 h (fun i => if i < o.length then v (o.getD i 0) else -1) 14 (rowsM t f goal rate o) := by
  have w := z.wf
  have od : ∀ s ∈ o, Hits (fo t f) (fun u => u ∉ o) s := fun s hs => by
    obtain ⟨k, hk⟩ := (d.mem s).mp hs
    refine (pf s k hk).mono (fun s x hx _ => ⟨x, hx, rfl⟩) (fun u hu c => ?_)
    obtain ⟨j, hj⟩ := (d.mem u).mp c
    have := (vf u j hj).2
    unfold Goal at hu
    rw [hu] at this; cases this
  -- how many steps, on the average
  have sys := sys_solve o d.nd (fo t f) (fun s _ => fo_pos w vf s)
    (fun s hs => by
      obtain ⟨k, hk⟩ := (d.mem s).mp hs
      rw [fo_some hk]; exact (w.act (valid_lt vf hk)).ne) od
    (fun s u => match told f s with
      | some k => total (((t.act k).chances.filter fun y => y.1 == u).map fun y => y.2)
      | none => zero)
    (fun _ => one)
    (fun s hs u => by
      obtain ⟨k, hk⟩ := (d.mem s).mp hs
      simp only [hk, fo_some hk]
      have := R_some (w.act (valid_lt vf hk)) (fun y => y == u)
      rw [wsum_beq] at this
      exact ⟨this.2, this.1⟩)
    (fun _ _ => ok_one) _ rfl
  obtain ⟨_, _, eqn⟩ := sys
  generalize solve o.length _ = xs at eqn
  let y := pick o (fun i => R (xs.getD i zero))
  have eqy : ∀ s ∈ o, y s * whole (fo t f s) = wsum (fo t f s) y + whole (fo t f s) := fun s hs => by
    have := eqn s hs
    rw [R_one] at this
    show pick o _ s * _ = _
    rw [this]; grind
  have wp : ∀ s ∈ o, 0 < whole (fo t f s) := fun s hs => by
    obtain ⟨k, hk⟩ := (d.mem s).mp hs
    rw [fo_some hk]; exact (w.act (valid_lt vf hk)).whole_pos
  have ynn : ∀ s, 0 ≤ y s := fun s => by
    by_cases m : s ∈ o
    · have := max_le o (fo t f) (fun s _ => fo_pos w vf s) (fun s => - y s) (fun s hs => by
        rw [wsum_const, wsum_neg]; have := eqy s hs; have := wp s hs; grind) (fun s _ x _ => by
        by_cases c : x.1 ∈ o
        · exact .inl c
        · exact .inr (by show - pick o _ x.1 ≤ 0; rw [pick_out c]; grind)) od s m
      grind
    · show 0 ≤ pick o _ s
      rw [pick_out m]; exact Rat.le_refl
  have ypos : ∀ s ∈ o, 0 < y s := fun s hs => by
    have e := eqy s hs
    have p := wp s hs
    have : wsum (fo t f s) (fun _ => 0) ≤ wsum (fo t f s) y := wsum_le (fun x _ => ynn x.1)
    rw [wsum_const] at this
    refine Classical.byContradiction fun c => ?_
    have z0 : y s = 0 := by have := ynn s; grind
    rw [z0] at e; grind
  have actm : ∀ {s k}, told f s = some k → t.act k ∈ t.acts ∧ (t.act k).at_ = s := fun {s k} hk => ⟨act_mem (valid_lt vf hk), (mem_acts_.mp (vf s k hk).1).2⟩
  have rowAt : ∀ i, i < o.length → ∃ k, told f (o.getD i 0) = some k ∧ (rowsM t f goal rate o).getD i [] = equationM goal rate t.goal o (t.act k) := fun i hi => by
    obtain ⟨k, hk⟩ := (d.mem _).mp (getD_mem (l := o) (d := 0) hi)
    refine ⟨k, hk, ?_⟩
    unfold rowsM
    have e : o.getD i 0 = o[i] := by rw [List.getD_eq_getElem?_getD, List.getElem?_eq_getElem hi]; rfl
    rw [List.getD_eq_getElem?_getD, List.getElem?_map, List.getElem?_eq_getElem hi]
    rw [e] at hk
    simp [hk]
  refine ⟨fun i => if i < o.length then y (o.getD i 0) else 0, fun j hj => ?_, by simp, ⟨by unfold rowsM; simp, fun i hi => ?_, fun i j _ hj => by omega, fun i j hi hj ne => ?_, fun i hi => ?_, fun i hi => ?_, fun i j hi hj => ?_⟩⟩
  · show 0 < if j < o.length then y (o.getD j 0) else 0
    rw [if_pos hj]; exact ypos _ (getD_mem hj)
  · obtain ⟨k, hk, e⟩ := rowAt i hi
    rw [e, equationM_eq d.nd (by rw [(actm hk).2]; exact getD_mem hi)]; simp
  · obtain ⟨k, hk, e⟩ := rowAt i hi
    rw [e, equationM_eq d.nd (by rw [(actm hk).2]; exact getD_mem hi), List.getD_eq_getElem?_getD, List.getElem?_append_left (by simpa using hj), List.getElem?_map, List.getElem?_eq_getElem hj]
    have ne' : ¬ o[j] = (t.act k).at_ := by
      rw [(actm hk).2, List.getD_eq_getElem?_getD, List.getElem?_eq_getElem hi]
      intro c
      exact ne ((List.getElem_inj d.nd).mp c).symm
    simp [ne']
  · obtain ⟨k, hk, e⟩ := rowAt i hi
    have hm := getD_mem (l := o) (d := 0) hi
    rw [e, dot_equation z d.nd (actm hk).1 (by rw [(actm hk).2]; exact hm), (actm hk).2]
    have pk : pick o (fun i => if i < o.length then y (o.getD i 0) else 0) = y := by
      funext u
      by_cases m : u ∈ o
      · obtain ⟨j, hj, rfl⟩ := List.mem_iff_getElem.mp m
        rw [pick_at d.nd hj, if_pos hj, List.getD_eq_getElem?_getD, List.getElem?_eq_getElem hj]; rfl
      · show pick o _ u = pick o _ u
        rw [pick_out m, pick_out m]
    rw [pk]
    have := eqy _ hm
    have p := wp _ hm
    rw [fo_some hk] at this p
    simp only [Nat.lt_irrefl, if_false]
    grind
  · obtain ⟨k, hk, e⟩ := rowAt i hi
    have hm := getD_mem (l := o) (d := 0) hi
    rw [e, dot_equation z d.nd (actm hk).1 (by rw [(actm hk).2]; exact hm), (actm hk).2]
    have pk : ∀ u, pick o (fun i => if i < o.length then v (o.getD i 0) else -1) u = v u - goal * (if t.done u = true then 1 else 0) := by
      intro u
      by_cases m : u ∈ o
      · obtain ⟨j, hj, rfl⟩ := List.mem_iff_getElem.mp m
        obtain ⟨q, hq⟩ := (d.mem _).mp m
        have nd := (vf _ q hq).2
        rw [pick_at d.nd hj, if_pos hj, List.getD_eq_getElem?_getD, List.getElem?_eq_getElem hj, if_neg (by rw [nd]; decide)]
        simp; grind
      · rw [pick_out m]
        by_cases dn : t.done u = true
        · rw [if_pos dn, iv.done u dn]; grind
        · rw [if_neg dn, iv.none u (by simpa using dn) (by
            cases q : told f u with
            | none => rfl
            | some q' => exact absurd ((d.mem u).mpr ⟨q', q⟩) m)]; grind
    have pw : wsum (t.act k).outs (pick o (fun i => if i < o.length then v (o.getD i 0) else -1)) = wsum (t.act k).outs v - goal * wsum (t.act k).outs (fun u => if t.done u = true then 1 else 0) := by
      rw [show pick o (fun i => if i < o.length then v (o.getD i 0) else -1) = fun u => v u - goal * (if t.done u = true then 1 else 0) from funext pk, wsum_sub, wsum_smul]
    have nd := (vf _ k hk).2
    rw [pw, pk, if_neg (by rw [nd]; decide)]
    have := iv.some _ k hk
    simp only [Nat.lt_irrefl, if_false]
    grind
  · obtain ⟨k, hk, e⟩ := rowAt i hi
    have am := (actm hk).1
    have wl := z.whole _ am
    have pl := z.price _ am
    have wle : ∀ (o : Outs) (u : Nat), wAt o u ≤ o.foldl (fun n x => n + x.2) 0 := by
      have mono : ∀ (o : Outs) (n : Nat), n ≤ o.foldl (fun n x => n + x.2) n := by
        intro o
        induction o with
        | nil => intro n; exact Nat.le_refl _
        | cons x o ih => intro n; exact Nat.le_trans (Nat.le_add_right _ _) (ih (n + x.2))
      have sh : ∀ (o : Outs) (n : Nat), o.foldl (fun n x => n + x.2) n = n + o.foldl (fun n x => n + x.2) 0 := by
        intro o
        induction o with
        | nil => intro n; rfl
        | cons x o ih => intro n; rw [List.foldl_cons, ih, List.foldl_cons, ih (0 + x.2)]; omega
      intro o
      induction o with
      | nil => intro u; simp [wAt]
      | cons x o ih =>
        intro u
        rw [List.foldl_cons, sh]
        have := ih u
        unfold wAt at this ⊢
        rw [List.lookup_cons]
        cases (u == x.1) <;> simp <;> omega
    have wu : ∀ u, wAt (t.act k).outs u ≤ 120 := fun u => Nat.le_trans (wle _ u) wl
    have sumw : ∀ (l : List Nat), l.Nodup → (l.map fun u => (wAt (t.act k).outs u : Int)).sum ≤ 120 ∧ 0 ≤ (l.map fun u => (wAt (t.act k).outs u : Int)).sum := by
      intro l nd
      have c1 : (((l.map fun u => (wAt (t.act k).outs u : Int)).sum : Int) : Rat) ≤ ((120 : Int) : Rat) := by
        rw [sum_cast]
        have e3 : sumL l (fun u => (((wAt (t.act k).outs u : Nat) : Int) : Rat)) = wsum (t.act k).outs (fun v => if decide (v ∈ l) = true then 1 else 0) := by
          rw [← sumL_done nd _ (fun v => decide (v ∈ l)) (fun u => by simp)]
          refine sumL_congr fun u _ => ?_
          rw [Rat.intCast_natCast, wAt_sum (z.keys _ am) u]
        rw [e3]
        have le1 : wsum (t.act k).outs (fun v => if decide (v ∈ l) = true then 1 else 0) ≤ wsum (t.act k).outs (fun _ => 1) := wsum_le fun x _ => by
          show (if decide (x.1 ∈ l) = true then (1 : Rat) else 0) ≤ 1
          by_cases c : x.1 ∈ l <;> simp [c] <;> decide
        have e4 : wsum (t.act k).outs (fun _ => 1) = (((t.act k).whole : Nat) : Rat) := (whole_cast _).symm
        have le2 : (((t.act k).whole : Nat) : Rat) ≤ ((120 : Nat) : Rat) := Rat.natCast_le_natCast.mpr wl
        rw [e4] at le1
        have : ((120 : Nat) : Rat) = ((120 : Int) : Rat) := rfl
        grind
      refine ⟨Rat.intCast_le_intCast.mp c1, ?_⟩
      clear c1 nd
      induction l with
      | nil => simp
      | cons a l ih => simp only [List.map_cons, List.sum_cons]; omega
    rw [e, equationM_eq d.nd (by rw [(actm hk).2]; exact getD_mem hi), List.getD_eq_getElem?_getD]
    by_cases hjo : j < o.length
    · rw [List.getElem?_append_left (by simpa using hjo), List.getElem?_map, List.getElem?_eq_getElem hjo]
      have a1 := wu o[j]
      by_cases c : o[j] = (t.act k).at_
      · simp only [c, Option.map_some, Option.getD_some, if_true]; rw [c] at a1; omega
      · simp only [Option.map_some, Option.getD_some, if_neg c]; omega
    · have hj' : j = o.length := by omega
      rw [List.getElem?_append_right (by simp; omega)]
      simp only [List.length_map, hj', Nat.sub_self, List.getElem?_cons_zero, Option.getD_some]
      have s1 := sumw t.goal z.goal
      generalize (t.goal.map fun u => (wAt (t.act k).outs u : Int)).sum = S at s1
      have b1 : (goal * S).natAbs ≤ 120 := by
        rw [Int.natAbs_mul]
        exact Nat.le_trans (Nat.mul_le_mul hg (show S.natAbs ≤ 120 by omega)) (by decide)
      have b2 : (rate * ((t.act k).cost : Int) * ((t.act k).whole : Int)).natAbs ≤ 12000 := by
        rw [Int.natAbs_mul, Int.natAbs_mul]
        exact Nat.le_trans (Nat.mul_le_mul (Nat.mul_le_mul hr (show ((t.act k).cost : Int).natAbs ≤ 100 by omega)) (show ((t.act k).whole : Int).natAbs ≤ 120 by omega)) (by decide)
      omega
end By

/-! ByT: tops and bottom; lowest terms. -/
namespace By
open Pn08
def bottomM (rows : List (List Int)) (c : Nat) : Int := (List.range c).foldl (fun b i => b * (rows.getD i []).getD i 0) 1
theorem bottomM_succ (rows : List (List Int)) (c : Nat) : bottomM rows (c + 1) = bottomM rows c * (rows.getD c []).getD c 0 := by
  unfold bottomM; rw [List.range_succ, List.foldl_append]; rfl
theorem bottomM_pos {rows : List (List Int)} {N : Nat} (h : ∀ i, i < N → 0 < (rows.getD i []).getD i 0) : ∀ c, c ≤ N → 0 < bottomM rows c
  | 0, _ => by simp [bottomM]
  | c + 1, hc => by rw [bottomM_succ]; exact Int.mul_pos (bottomM_pos h c (by omega)) (h c (by omega))
theorem bottomM_dvd {rows : List (List Int)} {i : Nat} : ∀ c, i < c → (rows.getD i []).getD i 0 ∣ bottomM rows c
  | 0, h => by omega
  | c + 1, h => by
    rw [bottomM_succ]
    by_cases e : i = c
    · subst e; exact Int.dvd_mul_left _ _
    · exact Int.dvd_trans (bottomM_dvd c (by omega)) (Int.dvd_mul_right _ _)
theorem bottomM_fits {rows : List (List Int)} {N bits : Nat} (h : ∀ i, i < N → ((rows.getD i []).getD i 0).natAbs < 2 ^ bits) : ∀ c, c ≤ N → (bottomM rows c).natAbs ≤ 2 ^ (bits * c)
  | 0, _ => by simp [bottomM]
  | c + 1, hc => by
    rw [bottomM_succ, Int.natAbs_mul, Nat.mul_succ, Nat.pow_add]
    exact Nat.mul_le_mul (bottomM_fits h c (by omega)) (Nat.le_of_lt (h c (by omega)))
theorem nodup_le : ∀ (n : Nat) (l : List Nat), l.Nodup → (∀ x ∈ l, x < n) → l.length ≤ n
  | 0, l, _, h => by
    cases l with
    | nil => simp
    | cons a l => have := h a (by simp); omega
  | n + 1, l, nd, h => by
    have ih := nodup_le n (l.erase n) (nd.erase n) (fun x hx => by
      have := (List.Nodup.mem_erase_iff nd).mp hx
      have := h x this.2
      omega)
    have : l.length ≤ (l.erase n).length + 1 := by
      by_cases m : n ∈ l
      · rw [List.length_erase_of_mem m]; omega
      · rw [List.erase_of_not_mem m]; omega
    omega
/-- stores, one behind another -/
def setsM {α : Type} (p : α → Nat) (q : α → Int) (l : List α) (ts : List Int) : List Int := l.foldl (fun ts x => ts.set (p x) (q x)) ts
theorem setsM_len {α : Type} {p : α → Nat} {q : α → Int} : ∀ (l : List α) (ts : List Int), (setsM p q l ts).length = ts.length
  | [], _ => rfl
  | x :: l, ts => by unfold setsM; rw [List.foldl_cons]; exact (setsM_len l _).trans (by simp)
theorem setsM_out {α : Type} {p : α → Nat} {q : α → Int} {s : Nat} : ∀ (l : List α) (ts : List Int), (∀ x ∈ l, p x ≠ s) → (setsM p q l ts).getD s 0 = ts.getD s 0
  | [], _, _ => rfl
  | x :: l, ts, h => by
    unfold setsM
    rw [List.foldl_cons]
    refine (setsM_out l _ (fun y hy => h y (by simp [hy]))).trans ?_
    have := h x (by simp)
    rw [List.getD_eq_getElem?_getD, List.getD_eq_getElem?_getD, List.getElem?_set_ne this]
theorem setsM_in {α : Type} {p : α → Nat} {q : α → Int} : ∀ (l : List α) (ts : List Int) (x : α), x ∈ l → (l.map p).Nodup → p x < ts.length → (setsM p q l ts).getD (p x) 0 = q x
  | [], _, _, h, _, _ => by simp at h
  | y :: l, ts, x, h, nd, hl => by
    rw [List.map_cons, List.nodup_cons] at nd
    unfold setsM
    rw [List.foldl_cons]
    rcases List.mem_cons.mp h with rfl | h
    · refine (setsM_out l _ (fun z hz e => nd.1 (List.mem_map.mpr ⟨z, hz, e⟩))).trans ?_
      rw [List.getD_eq_getElem?_getD, List.getElem?_set_self hl]; rfl
    · exact setsM_in l _ x h nd.2 (by simpa using hl)
/-- of each state a fraction: its top over the bottom -/
structure ValOk (n : Nat) (v : Nat → Rat) (tops : List Int) (bottom : Int) : Prop where
  len : tops.length = n
  pos : 0 < bottom
  fitB : bottom.natAbs < 2 ^ 6000
  fitT : ∀ s, (tops.getD s 0).natAbs < 2 ^ 7000
  val : ∀ s, s < n → ((tops.getD s 0 : Int) : Rat) = v s * bottom
def topsM (n : Nat) (goal bottom : Int) (wanted o : List Nat) (fin : List (List Int)) : List Int :=
  setsM (fun i => o.getD i 0) (fun i => (fin.getD i []).getD o.length 0 * (bottom / (fin.getD i []).getD i 0)) (List.range o.length) (setsM (fun s => s) (fun _ => goal * bottom) wanted (List.replicate n 0))
theorem bits6 : ∀ c, c ≤ 6 → bitsAt 14 c ≤ 959 := by decide
/-- **The values of a rule.** -/
theorem values_ok {t : Task} (z : Sz t) {f : Rule} (vf : Valid t f) (pf : Proper t f) {goal rate : Int} (hg : goal.natAbs ≤ 1) (hr : rate.natAbs ≤ 1) {o : List Nat} (d : Dom f o) {v : Nat → Rat} (iv : IsVal t f goal rate v) :
    let fin := solvedM (rowsM t f goal rate o)
    let bottom := bottomM fin o.length
    fin.length = o.length ∧ (∀ i, i < o.length → (fin.getD i []).length = o.length + 1 ∧ 0 < (fin.getD i []).getD i 0 ∧ ∀ j, j < o.length + 1 → ((fin.getD i []).getD j 0).natAbs < 2 ^ 959) ∧
    ValOk t.states v (topsM t.states goal bottom t.goal o fin) bottom := by
  obtain ⟨h, hp, hN, E⟩ := rows_elim z vf pf hg hr d iv
  have lt : ∀ s ∈ o, s < t.states := fun s hs => by
    obtain ⟨k, hk⟩ := (d.mem s).mp hs
    have := mem_acts_.mp (vf s k hk).1
    rw [← this.2]; exact z.wf.at_ _ (act_mem this.1)
  have oN : o.length ≤ 6 := by
    exact Nat.le_trans (nodup_le _ _ d.nd lt) z.states
  have EN := E.upto hp hN o.length (Nat.le_refl _)
  have lenR : (rowsM t f goal rate o).length = o.length := by unfold rowsM; simp
  have eF : solvedM (rowsM t f goal rate o) = (List.range o.length).foldl elimM (rowsM t f goal rate o) := by unfold solvedM; rw [lenR]
  simp only
  rw [eF]
  generalize (List.range o.length).foldl elimM (rowsM t f goal rate o) = fin at EN
  have dg : ∀ i, i < o.length → 0 < (fin.getD i []).getD i 0 := fun i hi => EN.diag hp hN hi
  have fits : ∀ i j, i < o.length → j < o.length + 1 → ((fin.getD i []).getD j 0).natAbs < 2 ^ 959 := fun i j hi hj =>
    Nat.lt_of_lt_of_le (EN.fits i j hi hj) (Nat.pow_le_pow_right (by decide) (bits6 _ oN))
  refine ⟨EN.len, fun i hi => ⟨EN.row i hi, dg i hi, fun j hj => fits i j hi hj⟩, ?_⟩
  have bp : 0 < bottomM fin o.length := bottomM_pos dg _ (Nat.le_refl _)
  have bf : (bottomM fin o.length).natAbs ≤ 2 ^ 5754 := Nat.le_trans (bottomM_fits (fun i hi => fits i i hi (by omega)) o.length (Nat.le_refl _)) (Nat.pow_le_pow_right (by decide) (by omega))
  have getT : ∀ s, (s ∉ o → (topsM t.states goal (bottomM fin o.length) t.goal o fin).getD s 0 = if t.done s = true then goal * bottomM fin o.length else 0) := by
    intro s hs
    unfold topsM
    rw [setsM_out (p := fun i => o.getD i 0) _ _ (fun i hi e => hs (by
      have e' : o.getD i 0 = s := e
      rw [← e']; exact getD_mem (List.mem_range.mp hi)))]
    by_cases dn : t.done s = true
    · rw [if_pos dn]
      have hm := done_iff.mp dn
      exact setsM_in (p := fun s => s) (q := fun _ => goal * bottomM fin o.length) t.goal _ s hm (by simpa using z.goal) (by simpa using z.wf.goal s hm)
    · rw [if_neg dn, setsM_out (p := fun s => s) _ _ (fun x hx e => dn (done_iff.mpr (by
        have e' : x = s := e
        rw [← e']; exact hx)))]
      rw [List.getD_eq_getElem?_getD]
      by_cases c : s < t.states
      · simp [c]
      · simp [c]
  have getO : ∀ i, i < o.length → (topsM t.states goal (bottomM fin o.length) t.goal o fin).getD (o.getD i 0) 0 = (fin.getD i []).getD o.length 0 * (bottomM fin o.length / (fin.getD i []).getD i 0) := by
    intro i hi
    unfold topsM
    refine setsM_in (p := fun i => o.getD i 0) (q := fun i => (fin.getD i []).getD o.length 0 * (bottomM fin o.length / (fin.getD i []).getD i 0)) (List.range o.length) _ i (List.mem_range.mpr hi) ?_ ?_
    · have : (List.range o.length).map (fun i => o.getD i 0) = o := by
        refine List.ext_getElem (by simp) fun j h1 h2 => ?_
        simp [List.getD_eq_getElem?_getD, h2]
      rw [this]; exact d.nd
    · rw [setsM_len]; simpa using lt _ (getD_mem hi)
  have idx : ∀ s ∈ o, ∃ i, i < o.length ∧ o.getD i 0 = s := fun s hs => by
    obtain ⟨i, hi, rfl⟩ := List.mem_iff_getElem.mp hs
    exact ⟨i, hi, by rw [List.getD_eq_getElem?_getD, List.getElem?_eq_getElem hi]; rfl⟩
  refine ⟨by unfold topsM; rw [setsM_len, setsM_len]; simp, bp, Nat.lt_of_le_of_lt bf (Nat.pow_lt_pow_right (by decide) (by decide)), fun s => ?_, fun s hs => ?_⟩
  · by_cases m : s ∈ o
    · obtain ⟨i, hi, rfl⟩ := idx s m
      rw [getO i hi, Int.natAbs_mul]
      have q1 := fits i o.length hi (by omega)
      have q2 : (bottomM fin o.length / (fin.getD i []).getD i 0).natAbs ≤ (bottomM fin o.length).natAbs := by
        have dv := dg i hi
        have h1 : 0 ≤ bottomM fin o.length / (fin.getD i []).getD i 0 := Int.ediv_nonneg (by omega) (by omega)
        have h2 : bottomM fin o.length / (fin.getD i []).getD i 0 ≤ bottomM fin o.length := Int.ediv_le_self _ (by omega)
        omega
      refine Nat.lt_of_le_of_lt (Nat.mul_le_mul (Nat.le_of_lt q1) (Nat.le_trans q2 bf)) ?_
      rw [← Nat.pow_add]
      exact Nat.pow_lt_pow_right (by decide) (by decide)
    · rw [getT s m]
      by_cases dn : t.done s = true
      · rw [if_pos dn, Int.natAbs_mul]
        refine Nat.lt_of_le_of_lt (Nat.mul_le_mul hg bf) ?_
        rw [Nat.one_mul]
        exact Nat.pow_lt_pow_right (by decide) (by decide)
      · rw [if_neg dn]; exact Nat.two_pow_pos _
  · by_cases m : s ∈ o
    · obtain ⟨i, hi, rfl⟩ := idx s m
      rw [getO i hi]
      have l := EN.last (by simp) hi
      rw [if_pos hi] at l
      obtain ⟨q, hq⟩ := bottomM_dvd (rows := fin) (i := i) o.length hi
      have dv := dg i hi
      have e1 : bottomM fin o.length / (fin.getD i []).getD i 0 = q := by rw [hq]; exact Int.mul_ediv_cancel_left _ (by omega)
      rw [e1]
      have e2 : ((bottomM fin o.length : Int) : Rat) = (((fin.getD i []).getD i 0 : Int) : Rat) * (q : Rat) := by
        rw [← Rat.intCast_mul, ← hq]
      rw [e2, Rat.intCast_mul, ← l]; grind
    · rw [getT s m]
      by_cases dn : t.done s = true
      · rw [if_pos dn, iv.done s dn, Rat.intCast_mul]
      · rw [if_neg dn, iv.none s (by simpa using dn) (by
          cases q : told f s with
          | none => rfl
          | some q' => exact absurd ((d.mem s).mpr ⟨q', q⟩) m)]; simp
end By

/-! ByM: a search that betters rules, for the chance and for the cost. -/
namespace By
open Pn08
def betterThan (t : Task) (rate : Int) (v : Nat → Rat) (s k : Nat) : Prop := v s * whole (t.act k).outs < wsum (t.act k).outs v + rate * (t.act k).cost * whole (t.act k).outs
def scoreOf (t : Task) (v : Nat → Rat) : Rat := sumL (List.range t.states) v
/-- what a search over some acts needs to know of its rules -/
structure Prob (t : Task) (as : List Nat) (goal rate : Int) where
  I : Rule → Prop
  v : Rule → Nat → Rat
  L : List Rule
  few : L.length ≤ 200
  mem : ∀ f, I f → f ∈ L
  valid : ∀ f, I f → Valid t f
  proper : ∀ f, I f → Proper t f
  isVal : ∀ f, I f → IsVal t f goal rate (v f)
  first : ∀ f : Rule, f.length = t.states → (∀ s k, told f s = some k → k ∈ as ∧ k ∈ t.acts_ s ∧ t.done s = false) → Proper t f →
    (∀ s, t.done s = false → told f s = none → ∀ k ∈ as, k ∈ t.acts_ s → ∀ x ∈ (t.act k).outs, t.done x.1 = false ∧ told f x.1 = none) → I f
  step : ∀ f g : Rule, I f → g.length = t.states → (∀ s, told f s = none ↔ told g s = none) →
    (∀ s j, told g s = some j → told f s = some j ∨ (j ∈ as ∧ j ∈ t.acts_ s ∧ betterThan t rate (v f) s j)) →
    I g ∧ ((∃ s j, told g s = some j ∧ told f s ≠ some j) → scoreOf t (v f) < scoreOf t (v g))
/-- how many rules are better -/
def Prob.left {t : Task} {as : List Nat} {goal rate : Int} (P : Prob t as goal rate) (f : Rule) : Nat := (P.L.filter fun h => decide (scoreOf t (P.v f) < scoreOf t (P.v h))).length
theorem Prob.less {t : Task} {as : List Nat} {goal rate : Int} (P : Prob t as goal rate) {f g : Rule} (hg : P.I g) (h : scoreOf t (P.v f) < scoreOf t (P.v g)) : P.left g < P.left f := by
  unfold Prob.left
  refine filter_lt (fun x _ hx => ?_) ⟨g, P.mem g hg, by simpa using h, by simp⟩
  simp only [decide_eq_true_iff] at hx ⊢
  grind
theorem cl_closed {t : Task} (w : Wf t) {good : Nat → Nat → Bool} {f : Rule} (h0 : ∀ s, t.done s = false → told f s = none → ∀ k ∈ t.acts_ s, good s k = true → ∀ x ∈ (t.act k).outs, t.done x.1 = false ∧ told f x.1 = none) :
    ∀ n s, U t good n s → t.done s = true ∨ ∃ k, told f s = some k := by
  intro n
  induction n with
  | zero => intro s h; exact .inl h
  | succ n ih =>
    intro s h
    rcases h with h | ⟨k, hk, hg, x, hx, hu⟩
    · exact ih s h
    · cases d : t.done s with
      | true => exact .inl rfl
      | false =>
        cases e : told f s with
        | some j => exact .inr ⟨j, rfl⟩
        | none =>
          have := h0 s d e k hk hg x hx
          rcases ih x.1 hu with q | ⟨j, q⟩
          · rw [this.1] at q; cases q
          · rw [this.2] at q; cases q
theorem sumL_mono {l : List Nat} {g h : Nat → Rat} (le : ∀ u ∈ l, g u ≤ h u) : sumL l g ≤ sumL l h := by
  induction l with
  | nil => exact Rat.le_refl
  | cons b l ih => simp only [sumL]; have := le b (by simp); have := ih (fun u hu => le u (by simp [hu])); grind
/-- **The chance.** -/
def probC (t : Task) (w : Wf t) : Prob t (List.range t.acts.length) 1 0 where
  I := fun f => f.length = t.states ∧ Valid t f ∧ Proper t f ∧ ∀ s, told f s = none ↔ told (ruleBy t fun _ _ => true) s = none
  v := cv t
  L := prods ((List.range t.states).map (optOf t.acts_ (ruleBy t fun _ _ => true)))
  few := Like.few w fun _ => Nat.le_refl _
  mem := fun f h => Like.mem ⟨h.1, h.2.2.2, fun s k hk => (h.2.1 s k hk).1⟩
  valid := fun f h => h.2.1
  proper := fun f h => h.2.2.1
  isVal := fun f h => by
    have c := chances_by w h.2.1
    refine ⟨fun s d => ?_, fun s d e => c.none s d (none_hits e d), fun s k hk => ?_⟩
    · rw [c.done s d]; rfl
    · rw [c.some s k (h.2.1 s k hk).2 (h.2.2.1 s k hk) hk]; simp; grind
  first := fun f len ha pf h0 => by
    have v : Valid t f := fun s k hk => ⟨(ha s k hk).2.1, (ha s k hk).2.2⟩
    refine ⟨len, v, pf, fun s => ⟨fun e => ?_, fun e => ?_⟩⟩
    · cases e2 : told (ruleBy t fun _ _ => true) s with
      | none => rfl
      | some k =>
        obtain ⟨_, d, _, _, n, hl, _⟩ := ruleBy_some w e2
        rcases cl_closed w (good := fun _ _ => true) (fun s d e k hk _ => h0 s d e k (List.mem_range.mpr (mem_acts_.mp hk).1) hk) _ s hl.1 with q | ⟨j, q⟩
        · rw [d] at q; cases q
        · rw [e] at q; cases q
    · cases e2 : told f s with
      | none => rfl
      | some k =>
        rcases ruleBy_none w e with q | q
        · rw [(v s k e2).2] at q; cases q
        · exact absurd (hits_cl v (pf s k e2)) q
  step := fun f g hf len dom bt => by
    have v' : Valid t g := fun s k hk => by
      cases e : told f s with
      | none => rw [(dom s).mp e] at hk; cases hk
      | some i =>
        refine ⟨?_, (hf.2.1 s i e).2⟩
        rcases bt s k hk with h | h
        · exact (hf.2.1 s k h).1
        · exact h.2.1
    have st := chance_step w hf.2.1 v' dom hf.2.2.1 (fun s j hj => by
      rcases bt s j hj with h | h
      · exact .inl h
      · have := h.2.2
        unfold betterThan at this
        simp only [Rat.intCast_zero] at this
        exact .inr (by grind))
    refine ⟨⟨len, v', st.1, fun s => (dom s).symm.trans (hf.2.2.2 s)⟩, fun ⟨s, j, hj, hn⟩ => ?_⟩
    exact sumL_lt (fun u _ => st.2.1 u) ⟨s, by have := told_lt hj; rw [len] at this; simpa using this, st.2.2 s j hj hn⟩
theorem probC_end {t : Task} (w : Wf t) {f : Rule} (h : (probC t w).I f) (no : ∀ s k, told f s = some k → ∀ i ∈ t.acts_ s, ¬ betterThan t 0 ((probC t w).v f) s i) : BestC t f := by
  refine bestC_of w h.2.1 (fun s e => ruleBy_none w ((h.2.2.2 s).mp e)) fun s k hk i hi => ?_
  have := no s k hk i hi
  unfold betterThan at this
  simp only [Rat.intCast_zero] at this
  have e : (probC t w).v f = cv t f := rfl
  rw [e] at this
  grind
/-- an act that leads only to where it's sure is one of a sure state -/
theorem sure_from {t : Task} (w : Wf t) {s k : Nat} (hk : k ∈ t.acts_ s) (d : t.done s = false) (h : ∀ x ∈ (t.act k).outs, bv t x.1 = 1) : bv t s = 1 := by
  obtain ⟨f, bf, _, e⟩ := chances_best w
  have o := bf.opt s d k hk
  rw [← e] at o
  have e1 : wsum (t.act k).outs (bv t) = whole (t.act k).outs := by
    unfold whole; exact wsum_congr fun x hx => h x hx
  rw [e1] at o
  have wp := (w.act (mem_acts_.mp hk).1).whole_pos
  have up := ((chances_by w bf.valid).bounds w bf.valid s).2.1
  rw [← e] at up
  refine Classical.byContradiction fun c => ?_
  have lt : bv t s < 1 := by grind
  have := (Rat.mul_lt_mul_right wp).mpr lt
  grind
/-- the acts that lead only to where it's sure -/
def sureIdx (t : Task) : List Nat := (List.range t.acts.length).filter fun k => (t.act k).outs.all fun x => Q.same (val (chances t) x.1) one
theorem mem_sureIdx {t : Task} (w : Wf t) {k : Nat} : k ∈ sureIdx t ↔ k < t.acts.length ∧ ∀ x ∈ (t.act k).outs, bv t x.1 = 1 := by
  unfold sureIdx
  simp only [List.mem_filter, List.mem_range, List.all_eq_true, same_bv w]
theorem sureIdx_acts {t : Task} (w : Wf t) {s k : Nat} (d : t.done s = false) (hk : k ∈ t.acts_ s) (h : k ∈ sureIdx t) : k ∈ sureActs t (chances t) s :=
  (mem_sureActs w).mpr ⟨hk, sure_from w hk d ((mem_sureIdx w).mp h).2, ((mem_sureIdx w).mp h).2⟩
/-- **The cost.** -/
def probK (t : Task) (w : Wf t) : Prob t (sureIdx t) 0 (-1) where
  I := fun f => f.length = t.states ∧ SureRule t f ∧ Sure t f
  v := fun f s => - kv t f s
  L := prods ((List.range t.states).map (optOf (sureActs t (chances t)) (ruleBy t (goodK t))))
  few := Like.few w fun _ => List.length_filter_le _ _
  mem := fun f h => Like.mem ⟨h.1, fun s => (h.2.1.dom s).trans ((first_sure w).dom s).symm, h.2.1.acts⟩
  valid := fun f h => h.2.1.valid
  proper := fun f h s k hk => one_hits (chances_by w h.2.1.valid) (h.2.1.valid s k hk).2 (h.2.2 s k hk)
  isVal := fun f h => by
    have c := chances_by w h.2.1.valid
    have kk := costs_by w h.2.1.valid
    refine ⟨fun s d => ?_, fun s d e => ?_, fun s k hk => ?_⟩
    · rw [kk.done s d]; simp
    · rw [kk.none s (by rw [c.none s d (none_hits e d)]; decide)]; grind
    · have := kk.some s k (h.2.1.valid s k hk).2 (h.2.2 s k hk) hk
      rw [wsum_neg]
      simp only [Rat.intCast_neg, Rat.intCast_one]
      grind
  first := fun f len ha pf h0 => by
    have v : Valid t f := fun s k hk => ⟨(ha s k hk).2.1, (ha s k hk).2.2⟩
    have sr : SureRule t f := ⟨v, fun s k hk => sureIdx_acts w (v s k hk).2 (v s k hk).1 (ha s k hk).1, fun s => ⟨fun e => ?_, fun e => ?_⟩⟩
    · exact ⟨len, sr, sure_of w v (sr.inside w) pf⟩
    · refine Classical.byContradiction fun c => ?_
      simp only [not_or, Classical.not_not] at c
      obtain ⟨n, hn⟩ := sure_cl w c.2
      rcases cl_closed w (good := goodK t) (fun s d e k hk hg => h0 s d e k ((mem_sureIdx w).mpr ⟨(mem_acts_.mp hk).1, ((mem_sureActs w).mp (goodK_iff.mp hg)).2.2⟩) hk) n s hn with q | ⟨j, q⟩
      · exact c.1 q
      · rw [e] at q; cases q
    · cases e2 : told f s with
      | none => rfl
      | some k =>
        rcases e with q | q
        · rw [(v s k e2).2] at q; cases q
        · exact absurd (sure_from w (v s k e2).1 (v s k e2).2 ((mem_sureIdx w).mp (ha s k e2).1).2) q
  step := fun f g hf len dom bt => by
    have ac : ∀ s k, told g s = some k → k ∈ sureActs t (chances t) s := fun s k hk => by
      rcases bt s k hk with h | h
      · exact hf.2.1.acts s k h
      · cases e : told f s with
        | none => rw [(dom s).mp e] at hk; cases hk
        | some i => exact sureIdx_acts w (hf.2.1.valid s i e).2 h.2.1 h.1
    have v' : Valid t g := fun s k hk => by
      cases e : told f s with
      | none => rw [(dom s).mp e] at hk; cases hk
      | some i => exact ⟨((mem_sureActs w).mp (ac s k hk)).1, (hf.2.1.valid s i e).2⟩
    have sr : SureRule t g := ⟨v', ac, fun s => (dom s).symm.trans (hf.2.1.dom s)⟩
    have st := cost_step w hf.2.1.valid v' dom hf.2.2 (sr.inside w) (fun s j hj => by
      rcases bt s j hj with h | h
      · exact .inl h
      · have := h.2.2
        unfold betterThan at this
        rw [wsum_neg] at this
        simp only [Rat.intCast_neg, Rat.intCast_one] at this
        exact .inr (by grind))
    refine ⟨⟨len, sr, st.1⟩, fun ⟨s, j, hj, hn⟩ => ?_⟩
    exact sumL_lt (fun u _ => by have := st.2.1 u; grind) ⟨s, by have := told_lt hj; rw [len] at this; simpa using this, by have := st.2.2 s j hj hn; grind⟩
theorem probK_end {t : Task} (w : Wf t) {f : Rule} (h : (probK t w).I f) (no : ∀ s k, told f s = some k → ∀ i ∈ sureIdx t, i ∈ t.acts_ s → ¬ betterThan t (-1) ((probK t w).v f) s i) : BestK t f := by
  refine ⟨h.2.1, h.2.2, fun s k hk i hi => ?_⟩
  have m := (mem_sureActs w).mp hi
  have := no s k hk i ((mem_sureIdx w).mpr ⟨(mem_acts_.mp m.1).1, m.2.2⟩) m.1
  unfold betterThan at this
  have e : (probK t w).v f = fun s => - kv t f s := rfl
  rw [e, wsum_neg] at this
  simp only [Rat.intCast_neg, Rat.intCast_one] at this
  grind
/-! ### lowest terms -/
theorem low_row {top bottom : Int} (h0 : 0 ≤ top) (h1 : 0 < bottom) {q : Q} (ok : Ok q) (e : (top : Rat) = R q * bottom) :
    [top / (Int.gcd top bottom : Int), bottom / (Int.gcd top bottom : Int)] = (row q).map fun (n : Nat) => (n : Int) := by
  have hb : 0 < bottom.toNat := by omega
  have eb : (bottom.toNat : Int) = bottom := by omega
  have rl := R_low (q := ⟨top, bottom.toNat⟩) hb
  have eR : R ⟨top, bottom.toNat⟩ = R q := by
    unfold R
    simp only
    have c : ((bottom.toNat : Nat) : Rat) = (bottom : Rat) := by rw [← Rat.intCast_natCast, eb]
    have p : (0 : Rat) < ((bottom.toNat : Nat) : Rat) := cast_pos hb
    rw [c] at p ⊢
    rw [e]
    unfold R
    grind
  have eq : Q.low ⟨top, bottom.toNat⟩ = q := R_inj rl.2 ok (rl.1.trans eR)
  rw [← eq]
  unfold Q.low row
  have g : Nat.gcd top.natAbs bottom.toNat = Int.gcd top bottom := by
    unfold Int.gcd; congr 1; omega
  have gp : 0 < Int.gcd top bottom := by rw [← g]; exact Nat.gcd_pos_of_pos_right _ hb
  simp only [g, show ¬ Int.gcd top bottom = 0 by omega, if_false, List.map_cons, List.map_nil]
  have d1 : 0 ≤ top / (Int.gcd top bottom : Int) := Int.ediv_nonneg h0 (by omega)
  congr 1
  · omega
  · rw [Int.natCast_ediv, eb]
end By

/-! ByU: rules as lists of states and acts, as the program keeps them. -/
namespace By
open Pn08
abbrev RL := List (Nat × Nat)
def inR (r : RL) (s : Nat) : Bool := r.any fun x => decide (x.1 = s)
def lookR (r : RL) (s : Nat) : Option Nat := (r.find? fun x => decide (x.1 = s)).map (·.2)
def putR (r : RL) (s k : Nat) : RL := if inR r s = true then r.map (fun x => if x.1 = s then (x.1, k) else x) else r ++ [(s, k)]
def mergeR (r b : RL) : RL := b.foldl (fun r x => putR r x.1 x.2) r
def keysR (r : RL) : List Nat := r.map (·.1)
theorem inR_iff {r : RL} {s : Nat} : inR r s = true ↔ s ∈ keysR r := by
  unfold inR keysR; simp [List.any_eq_true, List.mem_map]
theorem lookR_some {r : RL} {s k : Nat} (h : lookR r s = some k) : (s, k) ∈ r := by
  unfold lookR at h
  obtain ⟨x, hx, rfl⟩ := Option.map_eq_some_iff.mp h
  have h1 := List.find?_some hx
  have h2 := List.mem_of_find?_eq_some hx
  have e : x.1 = s := by simpa using h1
  subst e; exact h2
theorem lookR_none {r : RL} {s : Nat} : lookR r s = none ↔ s ∉ keysR r := by
  unfold lookR keysR
  simp [List.mem_map]
  exact ⟨fun h x hx => h s x hx rfl, fun h a b hab e => h b (e ▸ hab)⟩
theorem lookR_in {r : RL} {s : Nat} (h : s ∈ keysR r) : ∃ k, lookR r s = some k := by
  cases e : lookR r s with
  | some k => exact ⟨k, rfl⟩
  | none => exact absurd h (lookR_none.mp e)
theorem lookR_mem {r : RL} (nd : (keysR r).Nodup) {s k : Nat} (h : (s, k) ∈ r) : lookR r s = some k := by
  induction r with
  | nil => simp at h
  | cons x r ih =>
    unfold keysR at nd
    rw [List.map_cons, List.nodup_cons] at nd
    unfold lookR
    rw [List.find?_cons]
    rcases List.mem_cons.mp h with e | h
    · subst e; simp
    · have ne : ¬ x.1 = s := fun e => nd.1 (List.mem_map.mpr ⟨(s, k), h, e.symm⟩)
      simp only [ne, decide_false]
      exact ih nd.2 h
theorem lookR_append {r b : RL} {s : Nat} : lookR (r ++ b) s = (lookR r s).or (lookR b s) := by
  unfold lookR
  rw [List.find?_append]
  cases List.find? (fun x => decide (x.1 = s)) r <;> simp
theorem keys_put {r : RL} {s k : Nat} : keysR (putR r s k) = if inR r s = true then keysR r else keysR r ++ [s] := by
  unfold putR
  by_cases c : inR r s = true
  · rw [if_pos c, if_pos c]
    unfold keysR
    rw [List.map_map]
    refine List.map_congr_left fun x _ => ?_
    by_cases e : x.1 = s <;> simp [e]
  · rw [if_neg c, if_neg c]
    unfold keysR
    simp
theorem look_put {r : RL} {s k u : Nat} : lookR (putR r s k) u = if u = s then some k else lookR r u := by
  unfold putR
  by_cases c : inR r s = true
  · rw [if_pos c]
    induction r with
    | nil => simp [inR] at c
    | cons x r ih =>
      unfold lookR
      rw [List.map_cons, List.find?_cons, List.find?_cons]
      by_cases e : x.1 = s
      · by_cases e2 : x.1 = u
        · have e3 : u = s := e2.symm.trans e
          simp [e, e3]
        · have e3 : ¬ u = s := fun q => e2 (e.trans q.symm)
          have e4 : ¬ s = u := fun q => e3 q.symm
          simp only [e, if_true, e3, if_false, e4, decide_false, e2]
          by_cases ci : inR r s = true
          · have := ih ci
            rw [if_neg e3] at this
            exact this
          · have : r.map (fun x => if x.1 = s then (x.1, k) else x) = r := by
              refine (List.map_congr_left fun y hy => ?_).trans (List.map_id r)
              have : ¬ y.1 = s := fun q => ci (inR_iff.mpr (List.mem_map.mpr ⟨y, hy, q⟩))
              simp [this]
            rw [this]
      · have ci : inR r s = true := by
          rw [inR_iff] at c ⊢
          unfold keysR at c ⊢
          rw [List.map_cons] at c
          rcases List.mem_cons.mp c with q | q
          · exact absurd q.symm e
          · exact q
        simp only [e, if_false]
        by_cases e2 : x.1 = u
        · have e3 : ¬ u = s := fun q => e (e2.trans q)
          simp [e2, e3]
        · simp only [e2, decide_false]
          exact ih ci
  · rw [if_neg c, lookR_append]
    by_cases e : u = s
    · subst e
      have : lookR r u = none := lookR_none.mpr (fun q => c (inR_iff.mpr q))
      rw [this, if_pos rfl]; simp [lookR]
    · rw [if_neg e]
      have : lookR [(s, k)] u = none := by simp [lookR]; exact fun q => e q.symm
      rw [this]; simp
theorem merge_keys {b r : RL} (h : ∀ s ∈ keysR b, s ∈ keysR r) : keysR (mergeR r b) = keysR r := by
  unfold mergeR
  induction b generalizing r with
  | nil => rfl
  | cons x b ih =>
    rw [List.foldl_cons]
    have hx : inR r x.1 = true := inR_iff.mpr (h x.1 (by simp [keysR]))
    have e : keysR (putR r x.1 x.2) = keysR r := by rw [keys_put, if_pos hx]
    rw [ih (fun s hs => by rw [e]; exact h s (by unfold keysR at hs ⊢; simp at hs ⊢; exact .inr hs)), e]
theorem merge_look {b r : RL} (nd : (keysR b).Nodup) (s : Nat) : lookR (mergeR r b) s = (lookR b s).or (lookR r s) := by
  unfold mergeR
  induction b generalizing r with
  | nil => simp [lookR]
  | cons x b ih =>
    unfold keysR at nd
    rw [List.map_cons, List.nodup_cons] at nd
    rw [List.foldl_cons, ih nd.2, look_put]
    unfold lookR
    rw [List.find?_cons]
    by_cases e : x.1 = s
    · subst e
      have : lookR b x.1 = none := lookR_none.mpr nd.1
      unfold lookR at this
      rw [this]; simp
    · have e' : ¬ s = x.1 := fun q => e q.symm
      simp only [e, e', decide_false, if_false]
theorem merge_new {b r : RL} (nd : (keysR b).Nodup) (dj : ∀ s ∈ keysR b, s ∉ keysR r) : mergeR r b = r ++ b := by
  unfold mergeR
  induction b generalizing r with
  | nil => simp
  | cons x b ih =>
    unfold keysR at nd
    rw [List.map_cons, List.nodup_cons] at nd
    have hx : ¬ inR r x.1 = true := fun c => dj x.1 (by simp [keysR]) (inR_iff.mp c)
    rw [List.foldl_cons]
    have e : putR r x.1 x.2 = r ++ [x] := by unfold putR; rw [if_neg hx]
    rw [e, ih nd.2 (fun s hs => ?_)]
    · simp
    · unfold keysR at *
      rw [List.map_append, List.mem_append]
      rintro (q | q)
      · exact dj s (by simp at hs ⊢; exact .inr hs) q
      · simp at q
        exact nd.1 (q ▸ hs)
/-- as a rule -/
def ruleL (t : Task) (r : RL) : Rule := (List.range t.states).map (lookR r)
theorem ruleL_len {t : Task} {r : RL} : (ruleL t r).length = t.states := by unfold ruleL; simp
theorem told_ruleL {t : Task} {r : RL} (h : ∀ s ∈ keysR r, s < t.states) (s : Nat) : told (ruleL t r) s = lookR r s := by
  unfold ruleL
  rw [told_map]
  by_cases c : s < t.states
  · rw [if_pos c]
  · rw [if_neg c]
    exact (lookR_none.mpr fun q => c (h s q)).symm
/-! ### acts towards some states -/
def leadsTo (t : Task) (near : List Nat) (k : Nat) : Bool := (t.act k).outs.any fun x => near.contains x.1
def towStep (t : Task) (near : List Nat) (found : RL) (k : Nat) : RL := if (!near.contains (t.act k).at_ && (!inR found (t.act k).at_ && leadsTo t near k)) = true then putR found (t.act k).at_ k else found
def towardsM (t : Task) (idx near : List Nat) : RL := idx.foldl (towStep t near) []
structure Tow (t : Task) (near : List Nat) (done : List Nat) (found : RL) : Prop where
  nd : (keysR found).Nodup
  each : ∀ x ∈ found, x.2 ∈ done ∧ (t.act x.2).at_ = x.1 ∧ x.1 ∉ near ∧ leadsTo t near x.2 = true
  all : ∀ k ∈ done, (t.act k).at_ ∉ near → leadsTo t near k = true → (t.act k).at_ ∈ keysR found
  low : done.Pairwise (· < ·) → ∀ x ∈ found, ∀ j ∈ done, (t.act j).at_ = x.1 → leadsTo t near j = true → x.2 ≤ j
theorem Tow.step {t : Task} {near done : List Nat} {found : RL} (h : Tow t near done found) (k : Nat) : Tow t near (done ++ [k]) (towStep t near found k) := by
  unfold towStep
  by_cases c : (!near.contains (t.act k).at_ && (!inR found (t.act k).at_ && leadsTo t near k)) = true
  · rw [if_pos c]
    simp only [Bool.and_eq_true, Bool.not_eq_true'] at c
    obtain ⟨c1, c2, c3⟩ := c
    have ni : ¬ inR found (t.act k).at_ = true := by rw [c2]; decide
    have n1 : (t.act k).at_ ∉ near := fun q => by rw [← List.contains_iff_mem] at q; rw [c1] at q; cases q
    have e : putR found (t.act k).at_ k = found ++ [((t.act k).at_, k)] := by unfold putR; rw [if_neg ni]
    refine ⟨?_, ?_, ?_, ?_⟩
    · rw [keys_put, if_neg ni]
      refine List.nodup_append.mpr ⟨h.nd, by simp, fun a ha b hb => ?_⟩
      simp at hb; subst hb
      intro q; subst q
      exact ni (inR_iff.mpr ha)
    · rw [e]
      intro x hx
      rcases List.mem_append.mp hx with hx | hx
      · have := h.each x hx
        exact ⟨List.mem_append_left _ this.1, this.2⟩
      · simp at hx; subst hx
        exact ⟨by simp, rfl, n1, c3⟩
    · intro j hj n l
      rw [keys_put, if_neg ni]
      rcases List.mem_append.mp hj with hj | hj
      · exact List.mem_append_left _ (h.all j hj n l)
      · simp at hj; subst hj; simp
    · intro srt x hx j hj ea l
      have sp := List.pairwise_append.mp srt
      rw [e] at hx
      rcases List.mem_append.mp hx with hx | hx
      · rcases List.mem_append.mp hj with hj | hj
        · exact h.low sp.1 x hx j hj ea l
        · have := sp.2.2 x.2 (h.each x hx).1 j hj
          omega
      · simp at hx; subst hx
        rcases List.mem_append.mp hj with hj | hj
        · have ea' : (t.act j).at_ = (t.act k).at_ := ea
          have := h.all j hj (by rw [ea']; exact n1) l
          rw [ea'] at this
          exact absurd (inR_iff.mpr this) ni
        · simp at hj; subst hj; exact Nat.le_refl _
  · rw [if_neg c]
    refine ⟨h.nd, fun x hx => ?_, fun j hj n l => ?_, fun srt x hx j hj ea l => ?_⟩
    · have := h.each x hx
      exact ⟨List.mem_append_left _ this.1, this.2⟩
    · rcases List.mem_append.mp hj with hj | hj
      · exact h.all j hj n l
      · simp at hj; subst hj
        refine Classical.byContradiction fun q => c ?_
        have n1 : near.contains (t.act j).at_ = false := by
          cases e : near.contains (t.act j).at_ with
          | false => rfl
          | true => exact absurd (List.contains_iff_mem.mp e) n
        have n2 : inR found (t.act j).at_ = false := by
          cases e : inR found (t.act j).at_ with
          | false => rfl
          | true => exact absurd (inR_iff.mp e) q
        rw [n1, n2, l]; rfl
    · have sp := List.pairwise_append.mp srt
      rcases List.mem_append.mp hj with hj | hj
      · exact h.low sp.1 x hx j hj ea l
      · have := sp.2.2 x.2 (h.each x hx).1 j hj
        omega
theorem tow_all {t : Task} (near : List Nat) : ∀ (idx done : List Nat) (found : RL), Tow t near done found → Tow t near (done ++ idx) (idx.foldl (towStep t near) found)
  | [], done, found, h => by simpa using h
  | k :: idx, done, found, h => by
    have := tow_all near idx (done ++ [k]) _ (h.step k)
    rw [List.append_assoc] at this
    exact this
theorem towards_ok (t : Task) (idx near : List Nat) : Tow t near idx (towardsM t idx near) := by
  have := tow_all (t := t) near idx [] [] ⟨by simp [keysR], by simp, by simp, by simp⟩
  unfold towardsM
  simpa using this
/-! ### the first rule -/
/-- some acts alone -/
def goodI (idx : List Nat) (_ k : Nat) : Bool := idx.contains k
theorem goodI_iff {idx : List Nat} {s k : Nat} : goodI idx s k = true ↔ k ∈ idx := by unfold goodI; simp
/-- as far as so many steps -/
def Far (t : Task) (idx : List Nat) (r : RL) : Prop := ∃ n, (∀ s, s ∈ t.goal ++ keysR r ↔ U t (goodI idx) n s) ∧ ∀ x ∈ r, told (ruleBy t (goodI idx)) x.1 = some x.2
structure First (t : Task) (idx : List Nat) (r : RL) : Prop where
  nd : (t.goal ++ keysR r).Nodup
  each : ∀ x ∈ r, x.2 ∈ idx ∧ (t.act x.2).at_ = x.1
  hits : ∀ s ∈ keysR r, Hits (fo t (ruleL t r)) (Goal t) s
  far : idx.Pairwise (· < ·) → Far t idx r
theorem First.start {t : Task} {idx : List Nat} (h : t.goal.Nodup) : First t idx [] := ⟨by simpa [keysR] using h, by simp, by simp [keysR], fun _ => ⟨0, fun s => by simp [keysR, U, done_iff], by simp⟩⟩
theorem Far.more {t : Task} (w : Wf t) {idx : List Nat} (hi : ∀ k ∈ idx, k < t.acts.length) (srt : idx.Pairwise (· < ·)) {r b : RL} (h : Far t idx r) (hb : Tow t (t.goal ++ keysR r) idx b) : Far t idx (r ++ b) := by
  obtain ⟨n, hn, ht⟩ := h
  have lead : ∀ k, leadsTo t (t.goal ++ keysR r) k = true ↔ ∃ x ∈ (t.act k).outs, U t (goodI idx) n x.1 := fun k => by
    unfold leadsTo
    simp only [List.any_eq_true, List.contains_iff_mem, hn]
  have ek : keysR (r ++ b) = keysR r ++ keysR b := by unfold keysR; simp
  have new : ∀ s, s ∈ keysR b → ¬ U t (goodI idx) n s ∧ U t (goodI idx) (n + 1) s := fun s hs => by
    unfold keysR at hs
    obtain ⟨x, hx, rfl⟩ := List.mem_map.mp hs
    obtain ⟨e1, e2, e3, e4⟩ := hb.each x hx
    exact ⟨fun q => e3 ((hn _).mpr q), .inr ⟨x.2, mem_acts_.mpr ⟨hi _ e1, e2⟩, goodI_iff.mpr e1, (lead x.2).mp e4⟩⟩
  refine ⟨n + 1, fun s => ?_, fun x hx => ?_⟩
  · rw [ek, ← List.append_assoc, List.mem_append, hn]
    constructor
    · rintro (q | q)
      · exact .inl q
      · exact (new s q).2
    · rintro (q | ⟨k, hk, hg, hx⟩)
      · exact .inl q
      · by_cases c : U t (goodI idx) n s
        · exact .inl c
        · have m := mem_acts_.mp hk
          have := hb.all k (goodI_iff.mp hg) (by rw [m.2]; exact fun q => c ((hn s).mp q)) ((lead k).mpr hx)
          rw [m.2] at this
          exact .inr this
  · rcases List.mem_append.mp hx with hx | hx
    · exact ht x hx
    · have nu := new x.1 (List.mem_map.mpr ⟨x, hx, rfl⟩)
      obtain ⟨e1, e2, e3, e4⟩ := hb.each x hx
      cases q : told (ruleBy t (goodI idx)) x.1 with
      | none =>
        rcases ruleBy_none w q with d | d
        · exact absurd (U.mono (n := 0) d (Nat.zero_le n)) nu.1
        · exact absurd ⟨_, nu.2⟩ d
      | some k =>
        obtain ⟨_, _, hk, hg, m, hl, hx', low⟩ := ruleBy_some w q
        have ls : Least t (goodI idx) x.1 (n + 1) := ⟨nu.2, fun i hi' c => nu.1 (c.mono (by omega))⟩
        have em : m = n := by have := hl.uniq ls; omega
        subst em
        have a := low x.2 (mem_acts_.mpr ⟨hi _ e1, e2⟩) (goodI_iff.mpr e1) ((lead x.2).mp e4)
        have b := hb.low srt x hx k (goodI_iff.mp hg) (mem_acts_.mp hk).2 ((lead k).mpr hx')
        rw [show k = x.2 by omega]
/-- **The first rule is the rule by levels**, of these acts. -/
theorem First.told {t : Task} (w : Wf t) {idx : List Nat} (hi : ∀ k ∈ idx, k < t.acts.length) (srt : idx.Pairwise (· < ·)) {r : RL} (h : First t idx r) (no : towardsM t idx (t.goal ++ keysR r) = []) (s : Nat) : lookR r s = Pn08.told (ruleBy t (goodI idx)) s := by
  obtain ⟨n, hn, ht⟩ := h.far srt
  have nd := (List.nodup_append.mp h.nd).2.1
  cases e : lookR r s with
  | some k => exact (ht _ (lookR_some e)).symm
  | none =>
    cases q : Pn08.told (ruleBy t (goodI idx)) s with
    | none => rfl
    | some k =>
      obtain ⟨_, d, _, _, m, hl, _, _⟩ := ruleBy_some w q
      have stop : ∀ u, U t (goodI idx) (n + 1) u → U t (goodI idx) n u := fun u hu => by
        rcases hu with c | ⟨k, hk, hg, x, hx, hxu⟩
        · exact c
        · refine Classical.byContradiction fun c => ?_
          have tw := towards_ok t idx (t.goal ++ keysR r)
          rw [no] at tw
          have := tw.all k (goodI_iff.mp hg) (by rw [(mem_acts_.mp hk).2]; exact fun q => c ((hn u).mp q)) (by unfold leadsTo; exact List.any_eq_true.mpr ⟨x, hx, List.contains_iff_mem.mpr ((hn _).mpr hxu)⟩)
          simp [keysR] at this
      have := (hn s).mpr (U.stop stop _ s hl.1)
      rcases List.mem_append.mp this with g | g
      · rw [done_iff.mpr g] at d; cases d
      · exact absurd g (lookR_none.mp e)
theorem First.lt {t : Task} (w : Wf t) {idx : List Nat} (hi : ∀ k ∈ idx, k < t.acts.length) {r : RL} (h : First t idx r) : ∀ s ∈ keysR r, s < t.states := fun s hs => by
  unfold keysR at hs
  obtain ⟨x, hx, rfl⟩ := List.mem_map.mp hs
  have := h.each x hx
  rw [← this.2]; exact w.at_ _ (act_mem (hi _ this.1))
theorem First.more {t : Task} (w : Wf t) {idx : List Nat} (hi : ∀ k ∈ idx, k < t.acts.length) {r b : RL} (h : First t idx r) (hb : Tow t (t.goal ++ keysR r) idx b) : First t idx (mergeR r b) ∧ mergeR r b = r ++ b := by
  have dj : ∀ s ∈ keysR b, s ∉ keysR r := fun s hs q => by
    unfold keysR at hs
    obtain ⟨x, hx, rfl⟩ := List.mem_map.mp hs
    exact (hb.each x hx).2.2.1 (List.mem_append_right _ q)
  have e := merge_new hb.nd dj
  rw [e]
  have ek : keysR (r ++ b) = keysR r ++ keysR b := by unfold keysR; simp
  have lt2 : ∀ s ∈ keysR (r ++ b), s < t.states := fun s hs => by
    rw [ek] at hs
    rcases List.mem_append.mp hs with q | q
    · exact h.lt w hi s q
    · unfold keysR at q
      obtain ⟨x, hx, rfl⟩ := List.mem_map.mp q
      have := hb.each x hx
      rw [← this.2.1]; exact w.at_ _ (act_mem (hi _ this.1))
  have old : ∀ s ∈ keysR r, Hits (fo t (ruleL t (r ++ b))) (Goal t) s := fun s hs => by
    refine (h.hits s hs).mono (fun u x hx _ => ⟨x, ?_, rfl⟩) (fun u hu => hu)
    unfold fo at hx ⊢
    rw [told_ruleL (h.lt w hi)] at hx
    rw [told_ruleL lt2, lookR_append]
    cases q : lookR r u with
    | none => rw [q] at hx; simp at hx
    | some k => rw [q] at hx; simpa using hx
  refine ⟨⟨?_, ?_, ?_, fun srt => (h.far srt).more w hi srt hb⟩, rfl⟩
  · rw [ek, ← List.append_assoc]
    refine List.nodup_append.mpr ⟨h.nd, hb.nd, fun a ha c hc q => ?_⟩
    subst q
    unfold keysR at hc
    obtain ⟨x, hx, rfl⟩ := List.mem_map.mp hc
    exact (hb.each x hx).2.2.1 ha
  · intro x hx
    rcases List.mem_append.mp hx with hx | hx
    · exact h.each x hx
    · exact ⟨(hb.each x hx).1, (hb.each x hx).2.1⟩
  · intro s hs
    rw [ek] at hs
    rcases List.mem_append.mp hs with q | q
    · exact old s q
    · unfold keysR at q
      obtain ⟨x, hx, rfl⟩ := List.mem_map.mp q
      obtain ⟨_, _, _, l⟩ := hb.each x hx
      unfold leadsTo at l
      obtain ⟨y, hy, hc⟩ := List.any_eq_true.mp l
      have hm := List.contains_iff_mem.mp hc
      refine .step (x := y) ?_ ?_
      · unfold fo
        rw [told_ruleL lt2, lookR_append]
        have n1 : lookR r x.1 = none := lookR_none.mpr (dj x.1 (List.mem_map.mpr ⟨x, hx, rfl⟩))
        rw [n1, lookR_mem hb.nd (s := x.1) (k := x.2) hx]
        exact hy
      · rcases List.mem_append.mp hm with g | g
        · exact .here (done_iff.mpr g)
        · exact old _ g
theorem First.prob {t : Task} (w : Wf t) {idx : List Nat} (hi : ∀ k ∈ idx, k < t.acts.length) {goal rate : Int} (P : Prob t idx goal rate) {r : RL} (h : First t idx r) (no : towardsM t idx (t.goal ++ keysR r) = []) : P.I (ruleL t r) := by
  have lt := h.lt w hi
  have nd := List.nodup_append.mp h.nd
  refine P.first _ ruleL_len (fun s k hk => ?_) (fun s k hk => ?_) (fun s d e k hk ha x hx => ?_)
  · rw [told_ruleL lt] at hk
    have m := lookR_some hk
    have ea := h.each _ m
    refine ⟨ea.1, mem_acts_.mpr ⟨hi _ ea.1, ea.2⟩, ?_⟩
    cases q : t.done s with
    | false => rfl
    | true => exact absurd rfl (nd.2.2 s (done_iff.mp q) s (List.mem_map.mpr ⟨_, m, rfl⟩))
  · rw [told_ruleL lt] at hk
    exact h.hits s (List.mem_map.mpr ⟨_, lookR_some hk, rfl⟩)
  · rw [told_ruleL lt] at e ⊢
    have tw := towards_ok t idx (t.goal ++ keysR r)
    rw [no] at tw
    have n1 : (t.act k).at_ ∉ t.goal ++ keysR r := by
      rw [(mem_acts_.mp ha).2]
      intro q
      rcases List.mem_append.mp q with q | q
      · rw [done_iff.mpr q] at d; cases d
      · exact lookR_none.mp e q
    have n2 : x.1 ∉ t.goal ++ keysR r := fun q => by
      have := tw.all k hk n1 (by unfold leadsTo; exact List.any_eq_true.mpr ⟨x, hx, List.contains_iff_mem.mpr q⟩)
      simp [keysR] at this
    refine ⟨?_, lookR_none.mpr fun q => n2 (List.mem_append_right _ q)⟩
    cases q : t.done x.1 with
    | false => rfl
    | true => exact absurd (List.mem_append_left _ (done_iff.mp q)) n2
/-! ### better acts -/
def worthM (rate : Int) (tops : List Int) (bottom : Int) (a : Act) : Int := (a.outs.map fun x => (x.2 : Int) * tops.getD x.1 0).sum + rate * a.cost * a.whole * bottom
def betB (t : Task) (rate : Int) (tops : List Int) (bottom : Int) (k : Nat) : Bool := decide ((t.act k).whole * tops.getD (t.act k).at_ 0 < worthM rate tops bottom (t.act k))
theorem sum_wsum (tops : List Int) : ∀ (o : Outs), (((o.map fun x => (x.2 : Int) * tops.getD x.1 0).sum : Int) : Rat) = wsum o (fun s => (tops.getD s 0 : Rat))
  | [] => by simp [wsum]
  | x :: o => by simp only [List.map_cons, List.sum_cons, wsum, Rat.intCast_add, Rat.intCast_mul, Rat.intCast_natCast, sum_wsum tops o]
theorem betB_iff {t : Task} (w : Wf t) {rate : Int} {tops : List Int} {bottom : Int} {v : Nat → Rat} (ok : ValOk t.states v tops bottom) {k : Nat} (hk : k < t.acts.length) :
    betB t rate tops bottom k = true ↔ betterThan t rate v (t.act k).at_ k := by
  unfold betB betterThan
  rw [decide_eq_true_iff, ← Rat.intCast_lt_intCast]
  have am := act_mem hk
  have b : (0 : Rat) < (bottom : Rat) := by
    have := Rat.intCast_lt_intCast.mpr ok.pos
    simpa using this
  have e1 : wsum (t.act k).outs (fun s => (tops.getD s 0 : Rat)) = bottom * wsum (t.act k).outs v := by
    rw [← wsum_smul]
    refine wsum_congr fun x hx => ?_
    rw [ok.val x.1 (w.outs _ am x hx)]; grind
  unfold worthM
  simp only [Rat.intCast_add, Rat.intCast_mul, sum_wsum, e1, Rat.intCast_natCast, whole_cast, ok.val _ (w.at_ _ am)]
  have e2 : whole (t.act k).outs * (v (t.act k).at_ * bottom) = (v (t.act k).at_ * whole (t.act k).outs) * bottom := by grind
  have e3 : bottom * wsum (t.act k).outs v + rate * (t.act k).cost * whole (t.act k).outs * bottom = (wsum (t.act k).outs v + rate * (t.act k).cost * whole (t.act k).outs) * bottom := by grind
  rw [e2, e3]
  exact Rat.mul_lt_mul_right b
def betStep (t : Task) (rate : Int) (tops : List Int) (bottom : Int) (r b : RL) (k : Nat) : RL := if (inR r (t.act k).at_ && betB t rate tops bottom k) = true then putR b (t.act k).at_ k else b
def betterM (t : Task) (rate : Int) (tops : List Int) (bottom : Int) (r : RL) (idx : List Nat) : RL := idx.foldl (betStep t rate tops bottom r) []
structure Bet (t : Task) (rate : Int) (tops : List Int) (bottom : Int) (r : RL) (done : List Nat) (b : RL) : Prop where
  nd : (keysR b).Nodup
  each : ∀ x ∈ b, x.2 ∈ done ∧ (t.act x.2).at_ = x.1 ∧ x.1 ∈ keysR r ∧ betB t rate tops bottom x.2 = true
  all : ∀ k ∈ done, (t.act k).at_ ∈ keysR r → betB t rate tops bottom k = true → (t.act k).at_ ∈ keysR b
theorem Bet.step {t : Task} {rate : Int} {tops : List Int} {bottom : Int} {r : RL} {done : List Nat} {b : RL} (h : Bet t rate tops bottom r done b) (k : Nat) : Bet t rate tops bottom r (done ++ [k]) (betStep t rate tops bottom r b k) := by
  unfold betStep
  by_cases c : (inR r (t.act k).at_ && betB t rate tops bottom k) = true
  · rw [if_pos c]
    simp only [Bool.and_eq_true] at c
    have kk := keys_put (r := b) (s := (t.act k).at_) (k := k)
    refine ⟨?_, ?_, ?_⟩
    · rw [kk]
      by_cases ci : inR b (t.act k).at_ = true
      · rw [if_pos ci]; exact h.nd
      · rw [if_neg ci]
        refine List.nodup_append.mpr ⟨h.nd, by simp, fun a ha c hc => ?_⟩
        simp at hc; subst hc
        intro q; subst q
        exact ci (inR_iff.mpr ha)
    · intro x hx
      unfold putR at hx
      by_cases ci : inR b (t.act k).at_ = true
      · rw [if_pos ci] at hx
        obtain ⟨y, hy, rfl⟩ := List.mem_map.mp hx
        by_cases e : y.1 = (t.act k).at_
        · rw [if_pos e]
          refine ⟨by simp, e.symm, ?_, c.2⟩
          rw [e]; exact inR_iff.mp c.1
        · rw [if_neg e]
          have := h.each y hy
          exact ⟨List.mem_append_left _ this.1, this.2⟩
      · rw [if_neg ci] at hx
        rcases List.mem_append.mp hx with hx | hx
        · have := h.each x hx
          exact ⟨List.mem_append_left _ this.1, this.2⟩
        · simp at hx; subst hx
          exact ⟨by simp, rfl, inR_iff.mp c.1, c.2⟩
    · intro j hj hr hb
      rw [kk]
      rcases List.mem_append.mp hj with hj | hj
      · have := h.all j hj hr hb
        by_cases ci : inR b (t.act k).at_ = true
        · rw [if_pos ci]; exact this
        · rw [if_neg ci]; exact List.mem_append_left _ this
      · simp at hj; subst hj
        by_cases ci : inR b (t.act j).at_ = true
        · rw [if_pos ci]; exact inR_iff.mp ci
        · rw [if_neg ci]; simp
  · rw [if_neg c]
    refine ⟨h.nd, fun x hx => ?_, fun j hj hr hb => ?_⟩
    · have := h.each x hx
      exact ⟨List.mem_append_left _ this.1, this.2⟩
    · rcases List.mem_append.mp hj with hj | hj
      · exact h.all j hj hr hb
      · simp at hj; subst hj
        exact absurd (by rw [inR_iff.mpr hr, hb]; rfl) c
theorem bet_all {t : Task} {rate : Int} {tops : List Int} {bottom : Int} {r : RL} : ∀ (idx done : List Nat) (b : RL), Bet t rate tops bottom r done b → Bet t rate tops bottom r (done ++ idx) (idx.foldl (betStep t rate tops bottom r) b)
  | [], done, b, h => by simpa using h
  | k :: idx, done, b, h => by
    have := bet_all idx (done ++ [k]) _ (h.step k)
    rw [List.append_assoc] at this
    exact this
theorem better_ok (t : Task) (rate : Int) (tops : List Int) (bottom : Int) (r : RL) (idx : List Nat) : Bet t rate tops bottom r idx (betterM t rate tops bottom r idx) := by
  have := bet_all (t := t) (rate := rate) (tops := tops) (bottom := bottom) (r := r) idx [] [] ⟨by simp [keysR], by simp, by simp⟩
  unfold betterM
  simpa using this
/-- the rule that the search keeps -/
structure Kept (t : Task) (idx : List Nat) {goal rate : Int} (P : Prob t idx goal rate) (r : RL) : Prop where
  inv : P.I (ruleL t r)
  nd : (keysR r).Nodup
  each : ∀ x ∈ r, x.2 ∈ idx ∧ (t.act x.2).at_ = x.1
theorem Kept.lt {t : Task} (w : Wf t) {idx : List Nat} (hi : ∀ k ∈ idx, k < t.acts.length) {goal rate : Int} {P : Prob t idx goal rate} {r : RL} (h : Kept t idx P r) : ∀ s ∈ keysR r, s < t.states := fun s hs => by
  unfold keysR at hs
  obtain ⟨x, hx, rfl⟩ := List.mem_map.mp hs
  have := h.each x hx
  rw [← this.2]; exact w.at_ _ (act_mem (hi _ this.1))
theorem Kept.step {t : Task} (w : Wf t) {idx : List Nat} (hi : ∀ k ∈ idx, k < t.acts.length) {goal rate : Int} {P : Prob t idx goal rate} {r b : RL} (h : Kept t idx P r) {tops : List Int} {bottom : Int} (ok : ValOk t.states (P.v (ruleL t r)) tops bottom)
    (hb : Bet t rate tops bottom r idx b) (ne : b ≠ []) : Kept t idx P (mergeR r b) ∧ P.left (ruleL t (mergeR r b)) < P.left (ruleL t r) := by
  have sub : ∀ s ∈ keysR b, s ∈ keysR r := fun s hs => by
    unfold keysR at hs
    obtain ⟨x, hx, rfl⟩ := List.mem_map.mp hs
    exact (hb.each x hx).2.2.1
  have ek := merge_keys sub
  have lt := h.lt w hi
  have lt2 : ∀ s ∈ keysR (mergeR r b), s < t.states := fun s hs => lt s (by rw [← ek]; exact hs)
  have tf := told_ruleL lt
  have tg := told_ruleL lt2
  have bt : ∀ s j, lookR b s = some j → j ∈ idx ∧ (t.act j).at_ = s ∧ betterThan t rate (P.v (ruleL t r)) s j := fun s j hj => by
    have := hb.each _ (lookR_some hj)
    refine ⟨this.1, this.2.1, ?_⟩
    have q := (betB_iff w ok (hi _ this.1)).mp this.2.2.2
    rw [this.2.1] at q; exact q
  have st := P.step (ruleL t r) (ruleL t (mergeR r b)) h.inv ruleL_len (fun s => by rw [tf, tg, lookR_none, lookR_none, ek]) (fun s j hj => by
    rw [tg, merge_look hb.nd] at hj
    cases q : lookR b s with
    | none => rw [q] at hj; rw [tf]; exact .inl (by simpa using hj)
    | some i =>
      rw [q] at hj
      simp at hj; subst hj
      have := bt s i q
      exact .inr ⟨this.1, mem_acts_.mpr ⟨hi _ this.1, this.2.1⟩, this.2.2⟩)
  refine ⟨⟨st.1, by rw [ek]; exact h.nd, fun x hx => ?_⟩, P.less st.1 (st.2 ?_)⟩
  · have l := lookR_mem (by rw [ek]; exact h.nd) hx
    rw [merge_look hb.nd] at l
    cases q : lookR b x.1 with
    | none => rw [q] at l; exact h.each _ (lookR_some (by simpa using l))
    | some i =>
      rw [q] at l
      simp at l; subst l
      have := bt x.1 _ q
      exact ⟨this.1, this.2.1⟩
  · cases b with
    | nil => exact absurd rfl ne
    | cons x b =>
      have l := lookR_mem hb.nd (s := x.1) (k := x.2) (by simp)
      refine ⟨x.1, x.2, by rw [tg, merge_look hb.nd, l]; rfl, fun q => ?_⟩
      rw [tf] at q
      have q' := P.isVal _ h.inv
      have := bt x.1 x.2 l
      have e := q'.some x.1 x.2 (by rw [tf]; exact q)
      have bb := this.2.2
      unfold betterThan at bb
      rw [e] at bb
      grind
theorem Kept.fin {t : Task} (w : Wf t) {idx : List Nat} (hi : ∀ k ∈ idx, k < t.acts.length) {goal rate : Int} {P : Prob t idx goal rate} {r : RL} (h : Kept t idx P r) {tops : List Int} {bottom : Int} (ok : ValOk t.states (P.v (ruleL t r)) tops bottom)
    (no : betterM t rate tops bottom r idx = []) : ∀ s k, told (ruleL t r) s = some k → ∀ i ∈ idx, i ∈ t.acts_ s → ¬ betterThan t rate (P.v (ruleL t r)) s i := by
  intro s k hk i hi' ha hb
  rw [told_ruleL (h.lt w hi)] at hk
  have bo := better_ok t rate tops bottom r idx
  rw [no] at bo
  have ea := (mem_acts_.mp ha).2
  have := bo.all i hi' (by rw [ea]; exact List.mem_map.mpr ⟨_, lookR_some hk, rfl⟩) ((betB_iff w ok (hi i hi')).mpr (by rw [ea]; exact hb))
  simp [keysR] at this
end By

/-! ByG: begins and act: what fits. -/
namespace By
open Pn08
/-- every other one -/
def ev2 {α : Type} : List α → List α
  | [] => []
  | [a] => [a]
  | a :: _ :: r => a :: ev2 r
def riseB (many : Nat) : Nat → List Nat → Bool
  | _, [] => true
  | least, s :: r => !(decide (s < least)) && !(decide (many ≤ s)) && riseB many (s + 1) r
theorem riseB_iff {many : Nat} : ∀ (l : List Nat) (least : Nat), riseB many least l = true ↔ (∀ s ∈ l, s < many) ∧ rising l = true ∧ ∀ s ∈ l, least ≤ s
  | [], least => by simp [riseB, rising]
  | [a], least => by
    simp [riseB, rising]
    omega
  | a :: b :: r, least => by
    have ih := riseB_iff (many := many) (b :: r) (a + 1)
    unfold riseB
    rw [Bool.and_eq_true, Bool.and_eq_true, ih]
    simp only [rising, Bool.and_eq_true, decide_eq_true_iff, Bool.not_eq_true', decide_eq_false_iff_not, List.mem_cons]
    constructor
    · rintro ⟨⟨h1, h2⟩, h3, h4, h5⟩
      refine ⟨fun s hs => ?_, ⟨?_, h4⟩, fun s hs => ?_⟩
      · rcases hs with rfl | hs
        · omega
        · exact h3 s hs
      · have := h5 b (.inl rfl); omega
      · rcases hs with rfl | hs
        · omega
        · have := h5 s hs; omega
    · rintro ⟨h1, ⟨h2, h3⟩, h4⟩
      refine ⟨⟨by have := h4 a (.inl rfl); omega, by have := h1 a (.inl rfl); omega⟩, fun s hs => h1 s (.inr hs), h3, fun s hs => ?_⟩
      have key : ∀ (r : List Nat) (b : Nat), rising (b :: r) = true → ∀ s ∈ b :: r, b ≤ s := by
        intro r
        induction r with
        | nil => intro b _ s hs; simp at hs; omega
        | cons c r ih =>
          intro b hb s hs
          simp only [rising, Bool.and_eq_true, decide_eq_true_iff] at hb
          rcases List.mem_cons.mp hs with rfl | hs
          · omega
          · have := ih c hb.2 s hs; omega
      have := key r b h3 s (by simpa using hs)
      omega
theorem rising_nodup : ∀ (l : List Nat), rising l = true → l.Nodup
  | [], _ => by simp
  | [a], _ => by simp
  | a :: b :: r, h => by
    simp only [rising, Bool.and_eq_true, decide_eq_true_iff] at h
    have ih := rising_nodup (b :: r) h.2
    rw [List.nodup_cons]
    refine ⟨fun hm => ?_, ih⟩
    have key := ((riseB_iff (many := (b :: r).sum + a + 1 + b) (b :: r) b).mp ?_).2.2 a hm
    · omega
    · rw [riseB_iff]
      have key2 : ∀ (r : List Nat) (b : Nat), rising (b :: r) = true → ∀ s ∈ b :: r, b ≤ s := by
        intro r
        induction r with
        | nil => intro b _ s hs; simp at hs; omega
        | cons c r ih =>
          intro b hb s hs
          simp only [rising, Bool.and_eq_true, decide_eq_true_iff] at hb
          rcases List.mem_cons.mp hs with rfl | hs
          · omega
          · have := ih c hb.2 s hs; omega
      have sm : ∀ (l : List Nat) (s : Nat), s ∈ l → s ≤ l.sum := by
        intro l
        induction l with
        | nil => intro s hs; simp at hs
        | cons c l ih => intro s hs; rcases List.mem_cons.mp hs with rfl | hs <;> simp only [List.sum_cons]; omega; have := ih s hs; omega
      exact ⟨fun s hs => by have := sm _ s hs; omega, h.2, key2 r b h.2⟩
theorem begins_fits (n : Nat) (g : List Nat) : (n < 1 ∨ 6 < n ∨ riseB n 0 g = false) ↔ (n = 0 ∨ STATES < n ∨ (g.any fun s => decide (n ≤ s)) = true ∨ rising g = false) := by
  have h := riseB_iff (many := n) g 0
  have e1 : (g.any fun s => decide (n ≤ s)) = true ↔ ¬ ∀ s ∈ g, s < n := by
    simp [List.any_eq_true]
  unfold STATES
  rw [e1]
  cases hb : riseB n 0 g with
  | true =>
    have := h.mp hb
    simp only [Bool.true_eq_false, or_false]
    constructor
    · omega
    · rintro (a | a | a | a)
      · omega
      · omega
      · exact absurd this.1 a
      · rw [this.2.1] at a; cases a
  | false =>
    refine ⟨fun _ => ?_, fun _ => .inr (.inr rfl)⟩
    by_cases c : ∀ s ∈ g, s < n
    · refine .inr (.inr (.inr ?_))
      cases r : rising g with
      | false => rfl
      | true => rw [h.mpr ⟨c, r, fun _ _ => Nat.zero_le _⟩] at hb; cases hb
    · exact .inr (.inr (.inl c))
/-! ### pairs -/
theorem pairs_some : ∀ {l : List Nat} {o : List (Nat × Nat)}, pairs l = some o → ev2 l = o.map (·.1) ∧ ev2 (l.drop 1) = o.map (·.2) ∧ l.length = 2 * o.length
  | [], o, h => by simp [pairs] at h; subst h; simp [ev2]
  | [a], o, h => by simp [pairs] at h
  | [a, b], o, h => by
    simp [pairs] at h
    subst h; simp [ev2]
  | a :: b :: c :: r, o, h => by
    simp only [pairs, Option.map_eq_some_iff] at h
    obtain ⟨o', h', rfl⟩ := h
    have ih := pairs_some h'
    simp only [ev2, List.drop_succ_cons, List.drop_zero, List.map_cons] at *
    refine ⟨by rw [ih.1], by rw [← ih.2.1], by simp only [List.length_cons] at *; omega⟩
theorem pairs_none : ∀ {l : List Nat}, pairs l = none → l.length % 2 ≠ 0
  | [], h => by simp [pairs] at h
  | [a], _ => by simp
  | a :: b :: r, h => by
    simp only [pairs, Option.map_eq_none_iff] at h
    have := pairs_none h
    simp only [List.length_cons]; omega
def fitB (many : Nat) (ls : List Nat) : Bool := !(decide (ls.length = 0)) && !(decide (ls.length % 2 ≠ 0)) && ((ev2 (ls.drop 1)).all fun x => decide (1 ≤ x) && decide (x ≤ 20)) && riseB many 0 (ev2 ls)
theorem fit_none {many : Nat} {ls : List Nat} (h : pairs ls = none) : fitB many ls = false := by
  unfold fitB
  rw [decide_eq_true (pairs_none h)]; simp
theorem fit_some {many : Nat} {ls : List Nat} {o : List (Nat × Nat)} (h : pairs ls = some o) : fitB many ls = true ↔
    ¬ (o = [] ∨ (o.any fun x => decide (many ≤ x.1) || (x.2 == 0 || decide (WEIGHT < x.2))) = true ∨ rising (o.map fun x => x.1) = false) := by
  obtain ⟨e1, e2, e3⟩ := pairs_some h
  unfold fitB
  rw [e1, e2, Bool.and_eq_true, Bool.and_eq_true, Bool.and_eq_true, riseB_iff]
  simp only [Bool.not_eq_true', decide_eq_false_iff_not, List.all_eq_true, List.mem_map, Bool.and_eq_true, decide_eq_true_iff, not_or, Bool.not_eq_true, List.any_eq_true, Bool.or_eq_true, beq_iff_eq]
  unfold WEIGHT
  constructor
  · rintro ⟨⟨⟨h1, _⟩, h3⟩, h4, h5, _⟩
    refine ⟨fun c => ?_, ?_, ?_⟩
    · subst c; simp at e3; simp [e3] at h1
    · rintro ⟨x, hx, q⟩
      have a := h3 x.2 ⟨x, hx, rfl⟩
      have b := h4 x.1 ⟨x, hx, rfl⟩
      omega
    · rw [h5]; decide
  · rintro ⟨h1, h2, h3⟩
    have len : 0 < o.length := List.length_pos_iff.mpr h1
    refine ⟨⟨⟨by omega, by omega⟩, ?_⟩, ?_, ?_, ?_⟩
    · rintro x ⟨y, hy, rfl⟩
      have : ¬ (many ≤ y.1 ∨ y.2 = 0 ∨ 20 < y.2) := fun q => h2 ⟨y, hy, q⟩
      omega
    · rintro x ⟨y, hy, rfl⟩
      have : ¬ (many ≤ y.1 ∨ y.2 = 0 ∨ 20 < y.2) := fun q => h2 ⟨y, hy, q⟩
      omega
    · simpa using h3
    · intros; omega
/-- a house as it can be, with its sizes -/
structure Good (t : Task) : Prop where
  sz : Sz t
  one : 1 ≤ t.states
  outs : ∀ a ∈ t.acts, a.outs.length ≤ 6
  wt : ∀ a ∈ t.acts, ∀ x ∈ a.outs, x.2 ≤ 20
theorem good_init : Good init.task := ⟨⟨⟨by simp [init], by simp [init], by simp [init], by simp [init], by simp [init], by simp [init], by simp [init]⟩, by simp [init], by simp [init], by simp [init], by simp [init], by simp [init]⟩, by simp [init], by simp [init], by simp [init]⟩
theorem good_begins {n : Nat} {g : List Nat} (h : ¬ (n = 0 ∨ STATES < n ∨ (g.any fun s => decide (n ≤ s)) = true ∨ rising g = false)) : Good ⟨n, [], g⟩ := by
  simp only [not_or, STATES, Bool.not_eq_true, List.any_eq_false, Bool.not_eq_false, decide_eq_true_iff] at h
  obtain ⟨h1, h2, h3, h4⟩ := h
  exact ⟨⟨⟨fun s hs => by have := h3 s hs; simp at this; exact this, by simp, by simp, by simp, by simp, by simp, by simp⟩, by show n ≤ 6; omega, by simp, by simp, by simp, rising_nodup g h4⟩, by show 1 ≤ n; omega, by simp, by simp⟩
theorem whole_le : ∀ (o : List (Nat × Nat)) (n : Nat), (∀ x ∈ o, x.2 ≤ 20) → o.foldl (fun n x => n + x.2) n ≤ n + 20 * o.length
  | [], n, _ => by simp
  | x :: o, n, h => by
    rw [List.foldl_cons]
    have := whole_le o (n + x.2) (fun y hy => h y (by simp [hy]))
    have := h x (by simp)
    simp only [List.length_cons]; omega
theorem good_act {t : Task} (G : Good t) {s c : Nat} {o : List (Nat × Nat)} (full : ¬ t.acts.length = ACTS) (h : ¬ (t.states ≤ s ∨ c = 0 ∨ COST < c ∨ o = [] ∨ (o.any fun x => decide (t.states ≤ x.1) || (x.2 == 0 || decide (WEIGHT < x.2))) = true ∨ rising (o.map fun x => x.1) = false)) :
    Good { t with acts := t.acts ++ [⟨s, c, o⟩] } := by
  simp only [not_or, COST, WEIGHT, Bool.not_eq_true, List.any_eq_false, Bool.not_eq_false] at h
  obtain ⟨h1, h2, h3, h4, h5, h6⟩ := h
  have hx : ∀ x ∈ o, x.1 < t.states ∧ 0 < x.2 ∧ x.2 ≤ 20 := fun x hx => by
    have q := h5 x hx
    have q1 : ¬ t.states ≤ x.1 := fun a => by simp [a] at q
    have q2 : ¬ x.2 = 0 := fun a => by simp [a] at q
    have q3 : ¬ 20 < x.2 := fun a => by simp [a] at q
    omega
  have nd := rising_nodup _ h6
  have len : o.length ≤ 6 := by
    have a := nodup_le t.states (o.map fun x => x.1) nd (fun y hy => by
      obtain ⟨x, hx', rfl⟩ := List.mem_map.mp hy
      exact (hx x hx').1)
    have := G.sz.states
    simp at a; omega
  have many := G.sz.wf.many
  have w := G.sz.wf
  have mem : ∀ {Pr : Act → Prop}, (∀ a ∈ t.acts, Pr a) → Pr ⟨s, c, o⟩ → ∀ a ∈ t.acts ++ [⟨s, c, o⟩], Pr a := fun h1 h2 a ha => by
    rcases List.mem_append.mp ha with q | q
    · exact h1 a q
    · rw [List.mem_singleton.mp q]; exact h2
  unfold ACTS at full
  refine ⟨⟨⟨w.goal, mem w.at_ (by show s < t.states; omega), mem w.outs (fun x hx' => (hx x hx').1), mem w.pos (fun x hx' => (hx x hx').2.1), mem w.ne h4, mem w.cost (by show 0 < c; omega), ?_⟩, G.sz.states, mem G.sz.keys nd, mem G.sz.whole ?_, mem G.sz.price (by show c ≤ 100; omega), G.sz.goal⟩, G.one, mem G.outs len, mem G.wt (fun x hx' => (hx x hx').2.2)⟩
  · show (t.acts ++ [_]).length ≤ 12
    simp; omega
  · show o.foldl (fun n x => n + x.2) 0 ≤ 120
    have := whole_le o 0 (fun x hx' => (hx x hx').2.2)
    omega
theorem good_step {h : House} (G : Good h.task) (c : Call) : Good (step h c).1.task := by
  cases c with
  | begins n g =>
    unfold step
    simp only
    split
    · exact G
    · rename_i q; exact good_begins q
  | act s c l =>
    unfold step
    simp only
    split
    · exact G
    · rename_i q
      split
      · exact G
      · split
        · exact G
        · rename_i q2; exact good_act G q q2
  | chance s => unfold step; simp only; split <;> exact G
  | cost s => unfold step; simp only; split <;> exact G
  | likely => exact G
  | cheap => exact G
  | judge s l =>
    unfold step
    simp only
    split
    · exact G
    · split <;> exact G
end By

/-! ByX: the list of calls, call by call. -/
namespace By
open PyPn08
abbrev CL := List (List (List Int))
/-- a list of whole numbers and the calls that it tells -/
inductive Line : List Int → CL → Prop
  | nil : Line [] []
  | begins {x n : Int} {row t : List Int} {cs : CL} : n = (row.length : Int) → Line t cs → Line (0 :: x :: n :: (row ++ t)) ([[0, x], row] :: cs)
  | act {x y n : Int} {row t : List Int} {cs : CL} : n = (row.length : Int) → Line t cs → Line (1 :: x :: y :: n :: (row ++ t)) ([[1, x, y], row] :: cs)
  | chance {x : Int} {t : List Int} {cs : CL} : Line t cs → Line (2 :: x :: t) ([[2, x]] :: cs)
  | cost {x : Int} {t : List Int} {cs : CL} : Line t cs → Line (3 :: x :: t) ([[3, x]] :: cs)
  | likely {t : List Int} {cs : CL} : Line t cs → Line (4 :: t) ([[4]] :: cs)
  | cheap {t : List Int} {cs : CL} : Line t cs → Line (5 :: t) ([[5]] :: cs)
  | judge {x n : Int} {row t : List Int} {cs : CL} : n = (row.length : Int) → Line t cs → Line (6 :: x :: n :: (row ++ t)) ([[6, x], row] :: cs)
theorem row_some {r x s : List Int} (h : PyFlat.row r = some (x, s)) : ∃ n : Int, r = n :: (x ++ s) ∧ n = (x.length : Int) := by
  cases r with
  | nil => simp [PyFlat.row] at h
  | cons n r =>
    unfold PyFlat.row at h
    by_cases c : 0 ≤ n ∧ n.toNat ≤ r.length
    · simp only [c, and_self, if_true, Option.some.injEq, Prod.mk.injEq] at h
      obtain ⟨rfl, rfl⟩ := h
      refine ⟨n, by rw [List.take_append_drop], ?_⟩
      rw [List.length_take]; omega
    · simp only [c, if_false] at h
      cases h
theorem rows_one {r t : List Int} {xs : List (List Int)} (h : PyFlat.rows 1 r = some (xs, t)) : ∃ (x : List Int) (n : Int), xs = [x] ∧ r = n :: (x ++ t) ∧ n = (x.length : Int) := by
  unfold PyFlat.rows at h
  cases e : PyFlat.row r with
  | none => rw [e] at h; cases h
  | some q =>
    obtain ⟨x, s⟩ := q
    rw [e] at h
    simp only [PyFlat.rows, Option.some.injEq, Prod.mk.injEq] at h
    obtain ⟨rfl, rfl⟩ := h
    obtain ⟨n, e1, e2⟩ := row_some e
    exact ⟨x, n, rfl, e1, e2⟩
theorem calls_line : ∀ (f : Nat) (l : List Int) (cs : CL), PyFlat.calls shape f l = some cs → Line l cs
  | _, [], cs, h => by
    have : cs = [] := by
      cases ‹Nat› <;> (simp [PyFlat.calls] at h; exact h)
    subst this; exact .nil
  | 0, _ :: _, cs, h => by simp [PyFlat.calls] at h
  | f + 1, p :: r, cs, h => by
    unfold PyFlat.calls at h
    cases ec : PyFlat.call shape (p :: r) with
    | none => rw [ec] at h; cases h
    | some q =>
      obtain ⟨c, t⟩ := q
      rw [ec] at h
      simp only at h
      cases e2 : PyFlat.calls shape f t with
      | none => rw [e2] at h; cases h
      | some cs' =>
        rw [e2] at h
        simp only [Option.some.injEq] at h
        subst h
        have ih := calls_line f t cs' e2
        unfold PyFlat.call at ec
        simp only at ec
        have two : ∀ {k : Nat × Nat}, shape p = some k → k = (1, 1) → ∃ (x n : Int) (row : List Int), r = x :: n :: (row ++ t) ∧ c = [[p, x], row] ∧ n = (row.length : Int) := by
          intro k hk e
          subst e
          rw [hk] at ec
          simp only at ec
          split at ec
          · cases ec
          · rename_i hl
            cases e3 : PyFlat.rows 1 (r.drop 1) with
            | none => rw [e3] at ec; cases ec
            | some q =>
              obtain ⟨xs, t'⟩ := q
              rw [e3] at ec
              simp only [Option.some.injEq, Prod.mk.injEq] at ec
              obtain ⟨rfl, rfl⟩ := ec
              obtain ⟨x, n, rfl, e4, e5⟩ := rows_one e3
              cases r with
              | nil => simp at hl
              | cons y r =>
                simp only [List.drop_succ_cons, List.drop_zero] at e4
                exact ⟨y, n, x, by rw [e4], by simp, e5⟩
        have three : shape p = some (2, 1) → ∃ (x y n : Int) (row : List Int), r = x :: y :: n :: (row ++ t) ∧ c = [[p, x, y], row] ∧ n = (row.length : Int) := by
          intro hk
          rw [hk] at ec
          simp only at ec
          split at ec
          · cases ec
          · rename_i hl
            cases e3 : PyFlat.rows 1 (r.drop 2) with
            | none => rw [e3] at ec; cases ec
            | some q =>
              obtain ⟨xs, t'⟩ := q
              rw [e3] at ec
              simp only [Option.some.injEq, Prod.mk.injEq] at ec
              obtain ⟨rfl, rfl⟩ := ec
              obtain ⟨x, n, rfl, e4, e5⟩ := rows_one e3
              match r, hl, e4 with
              | [], hl, _ => simp at hl
              | [_], hl, _ => simp at hl
              | y :: y2 :: r, _, e4 =>
                simp only [List.drop_succ_cons, List.drop_zero] at e4
                exact ⟨y, y2, n, x, by rw [e4], by simp, e5⟩
        have one : shape p = some (1, 0) → ∃ (x : Int), r = x :: t ∧ c = [[p, x]] := by
          intro hk
          rw [hk] at ec
          simp only at ec
          split at ec
          · cases ec
          · rename_i hl
            simp only [PyFlat.rows, Option.some.injEq, Prod.mk.injEq] at ec
            obtain ⟨rfl, rfl⟩ := ec
            cases r with
            | nil => simp at hl
            | cons y r => exact ⟨y, by simp, by simp⟩
        have none0 : shape p = some (0, 0) → r = t ∧ c = [[p]] := by
          intro hk
          rw [hk] at ec
          simp only [Nat.not_lt_zero, if_false, PyFlat.rows, Option.some.injEq, Prod.mk.injEq] at ec
          obtain ⟨rfl, rfl⟩ := ec
          simp
        by_cases p0 : p = 0
        · obtain ⟨x, n, row, rfl, rfl, e⟩ := two (k := (1, 1)) (by unfold shape; rw [if_pos p0]) rfl
          subst p0; exact .begins e ih
        by_cases p1 : p = 1
        · obtain ⟨x, y, n, row, rfl, rfl, e⟩ := three (by unfold shape; rw [if_neg p0, if_pos p1])
          subst p1; exact .act e ih
        by_cases p2 : p = 2
        · obtain ⟨x, rfl, rfl⟩ := one (by unfold shape; rw [if_neg p0, if_neg p1, if_pos p2])
          subst p2; exact .chance ih
        by_cases p3 : p = 3
        · obtain ⟨x, rfl, rfl⟩ := one (by unfold shape; rw [if_neg p0, if_neg p1, if_neg p2, if_pos p3])
          subst p3; exact .cost ih
        by_cases p4 : p = 4
        · obtain ⟨rfl, rfl⟩ := none0 (by unfold shape; rw [if_neg p0, if_neg p1, if_neg p2, if_neg p3, if_pos p4])
          subst p4; exact .likely ih
        by_cases p5 : p = 5
        · obtain ⟨rfl, rfl⟩ := none0 (by unfold shape; rw [if_neg p0, if_neg p1, if_neg p2, if_neg p3, if_neg p4, if_pos p5])
          subst p5; exact .cheap ih
        by_cases p6 : p = 6
        · obtain ⟨x, n, row, rfl, rfl, e⟩ := two (k := (1, 1)) (by unfold shape; rw [if_neg p0, if_neg p1, if_neg p2, if_neg p3, if_neg p4, if_neg p5, if_pos p6]) rfl
          subst p6; exact .judge e ih
        have : shape p = none := by unfold shape; rw [if_neg p0, if_neg p1, if_neg p2, if_neg p3, if_neg p4, if_neg p5, if_neg p6]
        rw [this] at ec; cases ec
theorem line_whole {l : List Int} {cs : CL} (h : Line l cs) : cs.map PyPn08.whole = cs := by
  induction h with
  | nil => rfl
  | begins _ _ ih => rw [List.map_cons, ih]; rfl
  | act _ _ ih => rw [List.map_cons, ih]; rfl
  | chance _ ih => rw [List.map_cons, ih]; rfl
  | cost _ ih => rw [List.map_cons, ih]; rfl
  | likely _ ih => rw [List.map_cons, ih]; rfl
  | cheap _ ih => rw [List.map_cons, ih]; rfl
  | judge _ _ ih => rw [List.map_cons, ih]; rfl
/-- what the specification answers from a house on -/
def toldFrom (h : Pn08.House) (cs : CL) : List Int := PyFlat.told (PyFlat.played Pn08Neutral.step h cs)
theorem told_nil (h : Pn08.House) : toldFrom h [] = [] := rfl
theorem told_cons (h : Pn08.House) (c : List (List Int)) (cs : CL) : toldFrom h (c :: cs) = ((Pn08Neutral.step h c).2.length : Int) :: ((Pn08Neutral.step h c).2 ++ toldFrom (Pn08Neutral.step h c).1 cs) := by
  show PyFlat.told ((Pn08Neutral.step h c).2 :: PyFlat.played Pn08Neutral.step (Pn08Neutral.step h c).1 cs) = _
  unfold PyFlat.told toldFrom
  rw [List.flatMap_cons]; rfl
theorem asked_line {l : List Int} (h : answers_asked l = true) : ∃ cs, Line l cs ∧ answers l = toldFrom Pn08.init cs ∧ PyInside.calls bound cs = true ∧ cs.length ≤ 60 := by
  unfold answers_asked at h
  cases e : PyFlat.calls shape l.length l with
  | none => rw [e] at h; cases h
  | some cs =>
    rw [e] at h
    simp only [Bool.and_eq_true] at h
    have ln := calls_line _ _ _ e
    refine ⟨cs, ln, ?_, h.1.1.2, ?_⟩
    · unfold answers calls
      rw [e]
      simp only [line_whole ln]
      rfl
    · have := h.1.1.1.2
      unfold PyFlat.atMost at this
      exact of_decide_eq_true this
/-! ### one call's bounds -/
theorem inside_cons {c : List (List Int)} {cs : CL} (h : PyInside.calls bound (c :: cs) = true) : PyInside.call bound c = true ∧ PyInside.calls bound cs = true := by
  unfold PyInside.calls at h ⊢
  rw [List.all_cons, Bool.and_eq_true] at h
  exact h
theorem within_iff {lo hi z : Int} : PyInside.within lo hi z = true ↔ lo ≤ z ∧ z ≤ hi := by
  unfold PyInside.within; simp
theorem inside_two {p x : Int} {row : List Int} (hp : p = 0 ∨ p = 6) (h : PyInside.call bound [[p, x], row] = true) : 0 ≤ x ∧ row.length ≤ 20 ∧ ∀ z ∈ row, 0 ≤ z := by
  unfold PyInside.call bound at h
  have : (PyInside.within 0 4294967295 x = true) ∧ row.length ≤ 20 ∧ ∀ z ∈ row, PyInside.within 0 4294967295 z = true := by
    rcases hp with rfl | rfl <;> simp [PyInside.each, PyInside.lists] at h <;> exact ⟨h.1, h.2.1, h.2.2⟩
  exact ⟨(within_iff.mp this.1).1, this.2.1, fun z hz => (within_iff.mp (this.2.2 z hz)).1⟩
theorem inside_three {x y : Int} {row : List Int} (h : PyInside.call bound [[1, x, y], row] = true) : 0 ≤ x ∧ 0 ≤ y ∧ row.length ≤ 20 ∧ ∀ z ∈ row, 0 ≤ z := by
  unfold PyInside.call bound at h
  have : (PyInside.within 0 4294967295 x = true) ∧ (PyInside.within 0 4294967295 y = true) ∧ row.length ≤ 20 ∧ ∀ z ∈ row, PyInside.within 0 4294967295 z = true := by
    simp [PyInside.each, PyInside.lists] at h
    exact ⟨h.1.1, h.1.2, h.2.1, h.2.2⟩
  exact ⟨(within_iff.mp this.1).1, (within_iff.mp this.2.1).1, this.2.2.1, fun z hz => (within_iff.mp (this.2.2.2 z hz)).1⟩
theorem inside_one {p x : Int} (hp : p = 2 ∨ p = 3) (h : PyInside.call bound [[p, x]] = true) : 0 ≤ x := by
  unfold PyInside.call bound at h
  have : (PyInside.within 0 4294967295 x = true) := by
    rcases hp with rfl | rfl <;> simp [PyInside.each, PyInside.lists] at h <;> exact h
  exact (within_iff.mp this).1
end By

/-! ByJ: a rule judged as the best of a house that has the rule's acts alone. -/
namespace By
open Pn08
/-- a house with some of its acts -/
def sub (t : Task) (idx : List Nat) : Task := { t with acts := idx.map t.act }
theorem sub_act {t : Task} {idx : List Nat} {j k : Nat} (h : idx[j]? = some k) : (sub t idx).act j = t.act k := by
  unfold sub Task.act
  simp only
  rw [List.getD_eq_getElem?_getD, List.getElem?_map, h]; rfl
theorem sub_len (t : Task) (idx : List Nat) : (sub t idx).acts.length = idx.length := by unfold sub; simp
theorem good_sub {t : Task} (G : Good t) {idx : List Nat} (hi : ∀ k ∈ idx, k < t.acts.length) (hl : idx.length ≤ 12) : Good (sub t idx) := by
  have mem : ∀ {Pr : Act → Prop}, (∀ a ∈ t.acts, Pr a) → ∀ a ∈ (sub t idx).acts, Pr a := fun h a ha => by
    unfold sub at ha
    obtain ⟨k, hk, rfl⟩ := List.mem_map.mp ha
    exact h _ (act_mem (hi k hk))
  have w := G.sz.wf
  exact ⟨⟨⟨w.goal, mem w.at_, mem w.outs, mem w.pos, mem w.ne, mem w.cost, by rw [sub_len]; exact hl⟩, G.sz.states, mem G.sz.keys, mem G.sz.whole, mem G.sz.price, G.sz.goal⟩, G.one, mem G.outs, mem G.wt⟩
/-! ### two houses, two rules that do the same -/
def mC (t : Task) (f : Rule) (s u : Nat) : Q := match told f s with
  | some k => total (((t.act k).chances.filter fun y => y.1 == u).map fun y => y.2)
  | none => zero
def mD (t : Task) (f : Rule) (s : Nat) : Q := match told f s with
  | some k => total (((t.act k).chances.filter fun y => t.done y.1).map fun y => y.2)
  | none => zero
def mK (t : Task) (f : Rule) (s : Nat) : Q := match told f s with
  | some k => Q.of ((t.act k).cost : Int)
  | none => zero
theorem chancesBy_eq (t : Task) (f : Rule) : chancesBy t f = (List.range t.states).map fun s => if t.done s = true then one else match (openOf t f).idxOf? s with
    | some i => (solve (openOf t f).length ((openOf t f).map fun s => ((openOf t f).map fun u => (if u = s then one else zero).minus (mC t f s u)) ++ [mD t f s])).getD i zero
    | none => zero := rfl
theorem costsBy_eq (t : Task) (f : Rule) : costsBy t f = (List.range t.states).map fun s => if t.done s = true then some zero else match (sureOf t f).idxOf? s with
    | some i => some ((solve (sureOf t f).length ((sureOf t f).map fun s => ((sureOf t f).map fun u => (if u = s then one else zero).minus (mC t f s u)) ++ [mK t f s])).getD i zero)
    | none => none := rfl
theorem mC_congr {t t' : Task} {f f' : Rule} {s : Nat} (h : (told f' s).map t'.act = (told f s).map t.act) (u : Nat) : mC t' f' s u = mC t f s u := by
  unfold mC
  cases a : told f' s <;> cases b : told f s <;> rw [a, b] at h <;> simp at h
  simp only [h]
theorem mK_congr {t t' : Task} {f f' : Rule} {s : Nat} (h : (told f' s).map t'.act = (told f s).map t.act) : mK t' f' s = mK t f s := by
  unfold mK
  cases a : told f' s <;> cases b : told f s <;> rw [a, b] at h <;> simp at h
  simp only [h]
theorem mD_congr {t t' : Task} (ed : t'.done = t.done) {f f' : Rule} {s : Nat} (h : (told f' s).map t'.act = (told f s).map t.act) : mD t' f' s = mD t f s := by
  unfold mD
  cases a : told f' s <;> cases b : told f s <;> rw [a, b] at h <;> simp at h
  simp only [h, ed]
theorem done_congr {t t' : Task} (eg : t'.goal = t.goal) : t'.done = t.done := by funext s; unfold Task.done; rw [eg]
theorem chancesBy_congr {t t' : Task} (w : Wf t) (w' : Wf t') (es : t'.states = t.states) (eg : t'.goal = t.goal) {f f' : Rule} (v : Valid t f) (v' : Valid t' f')
    (h : ∀ s, (told f' s).map t'.act = (told f s).map t.act) : chancesBy t' f' = chancesBy t f := by
  have ed := done_congr eg
  have ef : fo t' f' = fo t f := by
    funext s
    have := h s
    unfold fo
    cases a : told f' s <;> cases b : told f s <;> rw [a, b] at this <;> simp at this
    simp only [this]
  have eG : Goal t' = Goal t := by unfold Goal; rw [ed]
  have eo : openOf t' f' = openOf t f := by
    unfold openOf
    rw [es]
    refine List.filter_congr fun s _ => ?_
    rw [ed]
    congr 1
    rw [Bool.eq_iff_iff, List.contains_iff_mem, List.contains_iff_mem, open_iff w v, open_iff w' v', ef, eG]
  have e1 : mC t' f' = mC t f := by funext s u; exact mC_congr (h s) u
  have e2 : mD t' f' = mD t f := by funext s; exact mD_congr ed (h s)
  rw [chancesBy_eq, chancesBy_eq, eo, e1, e2, ed, es]
theorem map_congr2 {l : List Nat} {g h : Nat → Nat → Q} (e : ∀ s ∈ l, ∀ u, g s u = h s u) {a b : Nat → Q} (e2 : ∀ s ∈ l, a s = b s) :
    (l.map fun s => (l.map fun u => (if u = s then one else zero).minus (g s u)) ++ [a s]) = l.map fun s => (l.map fun u => (if u = s then one else zero).minus (h s u)) ++ [b s] := by
  refine List.map_congr_left fun s hs => ?_
  rw [e2 s hs]
  congr 1
  refine List.map_congr_left fun u _ => ?_
  rw [e s hs]
theorem costsBy_congr {t t' : Task} (w : Wf t) (w' : Wf t') (es : t'.states = t.states) (eg : t'.goal = t.goal) {f f' : Rule} (v : Valid t f) (v' : Valid t' f')
    (h1 : ∀ s, t.done s = false → (cv t' f' s = 1 ↔ cv t f s = 1)) (h : ∀ s, t.done s = false → cv t f s = 1 → (told f' s).map t'.act = (told f s).map t.act) : costsBy t' f' = costsBy t f := by
  have ed := done_congr eg
  have c := chances_by w v
  have c' := chances_by w' v'
  have eo : sureOf t' f' = sureOf t f := by
    unfold sureOf
    rw [es]
    refine List.filter_congr fun s _ => ?_
    rw [ed]
    cases d : t.done s with
    | true => simp
    | false =>
      congr 1
      rw [Bool.eq_iff_iff, sure_same c, sure_same c']
      exact h1 s d
  have hs : ∀ s ∈ sureOf t f, (told f' s).map t'.act = (told f s).map t.act := fun s hs => by
    have := (mem_sureOf w v c).mp hs
    exact h s this.2 this.1
  have em := map_congr2 (l := sureOf t f) (fun s hs' u => mC_congr (hs s hs') u) (fun s hs' => mK_congr (hs s hs'))
  rw [costsBy_eq, costsBy_eq, eo, em, ed, es]
/-! ### the rule's acts alone -/
def lookF (r : List (Nat × Nat)) (s : Nat) : Option Nat := (r.find? fun x => x.1 == s).map (·.2)
/-- the acts that a rule does -/
def ruleIdx (t : Task) (r : List (Nat × Nat)) : List Nat := (List.range t.acts.length).filter fun k => decide (lookF r (t.act k).at_ = some k)
theorem mem_ruleIdx {t : Task} {r : List (Nat × Nat)} {k : Nat} : k ∈ ruleIdx t r ↔ k < t.acts.length ∧ lookF r (t.act k).at_ = some k := by
  unfold ruleIdx; simp
theorem ruleIdx_len (t : Task) (r : List (Nat × Nat)) : (ruleIdx t r).length ≤ t.acts.length := by
  unfold ruleIdx
  refine Nat.le_trans (List.length_filter_le _ _) (by simp)
theorem told_ruleOf (t : Task) (r : List (Nat × Nat)) (s : Nat) (k : Nat) : told (ruleOf t r) s = some k ↔ s < t.states ∧ t.done s = false ∧ k < t.acts.length ∧ (t.act k).at_ = s ∧ lookF r s = some k := by
  unfold ruleOf
  rw [told_map]
  unfold lookF
  by_cases c : s < t.states
  · rw [if_pos c]
    cases d : t.done s with
    | true => simp
    | false =>
      simp only [Bool.false_eq_true, if_false]
      cases e : r.find? fun x => x.1 == s with
      | none => simp
      | some x =>
        simp only [Option.map_some, Option.some.injEq, c, true_and]
        by_cases q : x.2 < t.acts.length ∧ (t.act x.2).at_ = s
        · rw [if_pos q, Option.some.injEq]
          exact ⟨fun h => by subst h; exact ⟨q.1, q.2, rfl⟩, fun h => h.2.2⟩
        · rw [if_neg q]
          refine Iff.intro (fun h => nomatch h) (fun h => absurd ?_ q)
          rw [h.2.2]; exact ⟨h.1, h.2.1⟩
  · rw [if_neg c]; simp [c]
theorem ruleOf_valid (t : Task) (r : List (Nat × Nat)) : Valid t (ruleOf t r) := fun s k h => by
  have := (told_ruleOf t r s k).mp h
  exact ⟨mem_acts_.mpr ⟨this.2.2.1, this.2.2.2.1⟩, this.2.1⟩
/-- the rule, over the acts that are left -/
def subRule (t : Task) (r : List (Nat × Nat)) : Rule := (List.range t.states).map fun s => (told (ruleOf t r) s).map fun k => (ruleIdx t r).idxOf k
theorem told_sub {t : Task} (w : Wf t) (r : List (Nat × Nat)) (s j : Nat) : told (subRule t r) s = some j ↔ ∃ k, (ruleIdx t r)[j]? = some k ∧ told (ruleOf t r) s = some k := by
  have nd : (ruleIdx t r).Nodup := nodup_range_filter _ _
  unfold subRule
  rw [told_map]
  constructor
  · intro h
    by_cases c : s < t.states
    · rw [if_pos c] at h
      obtain ⟨k, hk, rfl⟩ := Option.map_eq_some_iff.mp h
      refine ⟨k, ?_, hk⟩
      have m := (told_ruleOf t r s k).mp hk
      have hm : k ∈ ruleIdx t r := mem_ruleIdx.mpr ⟨m.2.2.1, by rw [m.2.2.2.1]; exact m.2.2.2.2⟩
      have hi : (ruleIdx t r).idxOf k < (ruleIdx t r).length := List.idxOf_lt_length_iff.mpr hm
      rw [List.getElem?_eq_getElem hi, List.getElem_idxOf hi]
    · rw [if_neg c] at h; cases h
  · rintro ⟨k, hj, hk⟩
    have m := (told_ruleOf t r s k).mp hk
    rw [if_pos m.1, hk, Option.map_some]
    obtain ⟨hlt, e⟩ := List.getElem?_eq_some_iff.mp hj
    congr 1
    rw [← e]
    exact List.Nodup.idxOf_getElem nd j hlt
theorem sub_at {t : Task} {r : List (Nat × Nat)} {s j : Nat} (h : j ∈ (sub t (ruleIdx t r)).acts_ s) : ∃ k, (ruleIdx t r)[j]? = some k ∧ (t.act k).at_ = s ∧ lookF r s = some k ∧ k < t.acts.length := by
  have m := mem_acts_.mp h
  rw [sub_len] at m
  obtain ⟨k, e⟩ : ∃ k, (ruleIdx t r)[j]? = some k := ⟨_, List.getElem?_eq_getElem m.1⟩
  rw [sub_act e] at m
  have mi := mem_ruleIdx.mp (List.mem_of_getElem? e)
  exact ⟨k, e, m.2, by rw [← m.2]; exact mi.2, mi.1⟩
section
variable {t : Task} (G : Good t) (r : List (Nat × Nat))
include G
theorem good_rule : Good (sub t (ruleIdx t r)) := good_sub G (fun k hk => (mem_ruleIdx.mp hk).1) (Nat.le_trans (ruleIdx_len t r) G.sz.wf.many)
theorem sub_valid : Valid (sub t (ruleIdx t r)) (subRule t r) := fun s j h => by
  obtain ⟨k, hj, hk⟩ := (told_sub G.sz.wf r s j).mp h
  have m := (told_ruleOf t r s k).mp hk
  refine ⟨mem_acts_.mpr ⟨?_, ?_⟩, m.2.1⟩
  · rw [sub_len]; exact (List.getElem?_eq_some_iff.mp hj).1
  · rw [sub_act hj]; exact m.2.2.2.1
theorem sub_only {s j : Nat} (d : t.done s = false) (h : j ∈ (sub t (ruleIdx t r)).acts_ s) : told (subRule t r) s = some j := by
  obtain ⟨k, hj, ha, hl, hk⟩ := sub_at h
  refine (told_sub G.sz.wf r s j).mpr ⟨k, hj, (told_ruleOf t r s k).mpr ⟨?_, d, hk, ha, hl⟩⟩
  rw [← ha]; exact G.sz.wf.at_ _ (act_mem hk)
theorem sub_same (s : Nat) : (told (subRule t r) s).map (sub t (ruleIdx t r)).act = (told (ruleOf t r) s).map t.act := by
  cases a : told (subRule t r) s with
  | some j =>
    obtain ⟨k, hj, hk⟩ := (told_sub G.sz.wf r s j).mp a
    rw [hk, Option.map_some, Option.map_some, sub_act hj]
  | none =>
    cases b : told (ruleOf t r) s with
    | none => rfl
    | some k =>
      have m := (told_ruleOf t r s k).mp b
      have hm : k ∈ ruleIdx t r := mem_ruleIdx.mpr ⟨m.2.2.1, by rw [m.2.2.2.1]; exact m.2.2.2.2⟩
      obtain ⟨j, hj, e⟩ := List.mem_iff_getElem.mp hm
      have := (told_sub G.sz.wf r s j).mpr ⟨k, by rw [List.getElem?_eq_getElem hj, e], b⟩
      rw [a] at this; cases this
theorem sub_best : BestC (sub t (ruleIdx t r)) (subRule t r) := by
  have w' := (good_rule G r).sz.wf
  have v' := sub_valid G r
  have c := chances_by w' v'
  refine ⟨v', fun s d j hj => ?_⟩
  have hk := sub_only G r d hj
  by_cases hh : Hits (fo (sub t (ruleIdx t r)) (subRule t r)) (Goal (sub t (ruleIdx t r))) s
  · rw [c.some s j d hh hk]; exact Rat.le_refl
  · rw [c.none s d hh]
    have z : wsum ((sub t (ruleIdx t r)).act j).outs (cv (sub t (ruleIdx t r)) (subRule t r)) = wsum ((sub t (ruleIdx t r)).act j).outs (fun _ => 0) := wsum_congr fun x hx => by
      have nx : ¬ Hits (fo (sub t (ruleIdx t r)) (subRule t r)) (Goal (sub t (ruleIdx t r))) x.1 := fun q => hh (.step (x := x) (by rw [fo_some hk]; exact hx) q)
      refine c.none _ ?_ nx
      cases dx : (sub t (ruleIdx t r)).done x.1 with
      | false => rfl
      | true => exact absurd (.here dx) nx
    rw [z, wsum_const]; grind
/-- **The rule's chances.** -/
theorem judge_chances (s : Nat) : val (chances (sub t (ruleIdx t r))) s = val (chancesBy t (ruleOf t r)) s := by
  have w' := (good_rule G r).sz.wf
  have v' := sub_valid G r
  have e := chancesBy_congr (t' := sub t (ruleIdx t r)) G.sz.wf w' rfl rfl (ruleOf_valid t r) v' (sub_same G r)
  have b : bv (sub t (ruleIdx t r)) s = cv (sub t (ruleIdx t r)) (subRule t r) s := by rw [bestC_bv w' (sub_best G r)]
  rw [← e]
  exact R_inj (val_ok (chances_ok w') s) (val_ok (chances_by w' v').ok s) b
/-- **The rule's costs.** -/
theorem judge_costs : costs (sub t (ruleIdx t r)) = costsBy t (ruleOf t r) := by
  have w' := (good_rule G r).sz.wf
  have v' := sub_valid G r
  have v := ruleOf_valid t r
  have e := chancesBy_congr (t' := sub t (ruleIdx t r)) G.sz.wf w' rfl rfl v v' (sub_same G r)
  have ecv : ∀ s, cv (sub t (ruleIdx t r)) (subRule t r) s = cv t (ruleOf t r) s := fun s => by unfold cv; rw [e]
  have eb : ∀ s, bv (sub t (ruleIdx t r)) s = cv t (ruleOf t r) s := fun s => by rw [bestC_bv w' (sub_best G r), ecv]
  obtain ⟨g, bg, eg⟩ := costs_best w'
  rw [eg]
  have told_g : ∀ s, t.done s = false → cv t (ruleOf t r) s = 1 → ∃ j, told g s = some j := fun s d h => by
    cases q : told g s with
    | some j => exact ⟨j, rfl⟩
    | none =>
      rcases (bg.rule.dom s).mp q with x | x
      · have x' : t.done s = true := x
        rw [d] at x'; cases x'
      · exact absurd ((eb s).trans h) x
  refine costsBy_congr (t' := sub t (ruleIdx t r)) G.sz.wf w' rfl rfl v bg.rule.valid (fun s d => ⟨fun h => ?_, fun h => ?_⟩) (fun s d h => ?_)
  · have a := chance_opt w' (sub_best G r).valid bg.rule.valid (sub_best G r).opt s
    have bb := ((chances_by w' v').bounds w' v' s).2.1
    rw [← ecv]; grind
  · obtain ⟨j, hj⟩ := told_g s d h
    exact bg.sure s j hj
  · obtain ⟨j, hj⟩ := told_g s d h
    rw [← sub_same G r s, sub_only G r d (bg.rule.valid s j hj).1, hj]
end
/-- a fraction is 1 just if it is told so -/
theorem row_one {q : Q} (ok : Ok q) : row q = [1, 1] ↔ R q = 1 := by
  constructor
  · intro h
    unfold row at h
    simp only [List.cons.injEq, and_true] at h
    have e : q = one := by
      cases q with
      | mk n d =>
        simp only at h
        have : n = 1 := by omega
        rw [this, h.2]; rfl
    rw [e, R_one]
  · intro h
    have e : q = one := R_inj ok ok_one (h.trans R_one.symm)
    rw [e]; rfl
end By

/-! ByY: the likely rule and the cheap rule, as the program finds them. -/
namespace By
open Pn08
/-! ### acts that are worth just what their state is -/
def eqB (t : Task) (rate : Int) (tops : List Int) (bottom : Int) (k : Nat) : Bool := decide (worthM rate tops bottom (t.act k) = (t.act k).whole * tops.getD (t.act k).at_ 0)
theorem eqB_iff {t : Task} (w : Wf t) {rate : Int} {tops : List Int} {bottom : Int} {v : Nat → Rat} (ok : ValOk t.states v tops bottom) {k : Nat} (hk : k < t.acts.length) :
    eqB t rate tops bottom k = true ↔ wsum (t.act k).outs v + rate * (t.act k).cost * whole (t.act k).outs = v (t.act k).at_ * whole (t.act k).outs := by
  unfold eqB
  rw [decide_eq_true_iff, ← Rat.intCast_inj]
  have am := act_mem hk
  have b : (0 : Rat) < (bottom : Rat) := by
    have := Rat.intCast_lt_intCast.mpr ok.pos
    simpa using this
  have e1 : wsum (t.act k).outs (fun s => (tops.getD s 0 : Rat)) = bottom * wsum (t.act k).outs v := by
    rw [← wsum_smul]
    refine wsum_congr fun x hx => ?_
    rw [ok.val x.1 (w.outs _ am x hx)]; grind
  unfold worthM
  simp only [Rat.intCast_add, Rat.intCast_mul, sum_wsum, e1, Rat.intCast_natCast, whole_cast, ok.val _ (w.at_ _ am)]
  have e2 : whole (t.act k).outs * (v (t.act k).at_ * bottom) = (v (t.act k).at_ * whole (t.act k).outs) * bottom := by grind
  have e3 : bottom * wsum (t.act k).outs v + rate * (t.act k).cost * whole (t.act k).outs * bottom = (wsum (t.act k).outs v + rate * (t.act k).cost * whole (t.act k).outs) * bottom := by grind
  rw [e2, e3]
  generalize wsum (t.act k).outs v + rate * (t.act k).cost * whole (t.act k).outs = x
  generalize v (t.act k).at_ * whole (t.act k).outs = y
  constructor
  · intro h
    have : (x - y) * (bottom : Rat) = 0 := by grind
    rcases Rat.mul_eq_zero.mp this with q | q <;> grind
  · intro h; rw [h]
def bestIdx (t : Task) (rate : Int) (tops : List Int) (bottom : Int) (idx : List Nat) : List Nat := idx.filter fun k => !t.goal.contains (t.act k).at_ && eqB t rate tops bottom k
theorem bestIdx_srt {t : Task} {rate : Int} {tops : List Int} {bottom : Int} {idx : List Nat} (h : idx.Pairwise (· < ·)) : (bestIdx t rate tops bottom idx).Pairwise (· < ·) := List.Pairwise.filter _ h
theorem bestIdx_sub {t : Task} {rate : Int} {tops : List Int} {bottom : Int} {idx : List Nat} {k : Nat} (h : k ∈ bestIdx t rate tops bottom idx) : k ∈ idx := (List.mem_filter.mp h).1
theorem bestIdx_len {t : Task} {rate : Int} {tops : List Int} {bottom : Int} {idx : List Nat} : (bestIdx t rate tops bottom idx).length ≤ idx.length := List.length_filter_le _ _
/-! ### rules by levels that agree -/
theorem U_congr {t : Task} {g1 g2 : Nat → Nat → Bool} (h : ∀ s k n, t.done s = false → k ∈ t.acts_ s → (∃ x ∈ (t.act k).outs, U t g2 n x.1) → g1 s k = g2 s k) : ∀ n s, U t g1 n s ↔ U t g2 n s
  | 0, s => Iff.rfl
  | n + 1, s => by
    have ih := U_congr h n
    constructor
    · rintro (q | ⟨k, hk, hg, x, hx, hu⟩)
      · exact .inl ((ih s).mp q)
      · cases d : t.done s with
        | true => exact .inl (U.mono (n := 0) d (Nat.zero_le n))
        | false => exact .inr ⟨k, hk, by rw [← h s k n d hk ⟨x, hx, (ih _).mp hu⟩]; exact hg, x, hx, (ih _).mp hu⟩
    · rintro (q | ⟨k, hk, hg, x, hx, hu⟩)
      · exact .inl ((ih s).mpr q)
      · cases d : t.done s with
        | true => exact .inl (U.mono (n := 0) d (Nat.zero_le n))
        | false => exact .inr ⟨k, hk, by rw [h s k n d hk ⟨x, hx, hu⟩]; exact hg, x, hx, (ih _).mpr hu⟩
theorem ruleBy_congr {t : Task} (w : Wf t) {g1 g2 : Nat → Nat → Bool} (h : ∀ s k n, t.done s = false → k ∈ t.acts_ s → (∃ x ∈ (t.act k).outs, U t g2 n x.1) → g1 s k = g2 s k) (s : Nat) : told (ruleBy t g1) s = told (ruleBy t g2) s := by
  have hu := U_congr h
  cases a : told (ruleBy t g1) s with
  | none =>
    cases b : told (ruleBy t g2) s with
    | none => rfl
    | some k =>
      obtain ⟨_, d, _, _, n, hl, _, _⟩ := ruleBy_some w b
      rcases ruleBy_none w a with q | q
      · rw [d] at q; cases q
      · exact absurd ⟨_, (hu _ s).mpr hl.1⟩ q
  | some k =>
    obtain ⟨_, d, hk, hg, n, hl, ⟨x, hx, hxu⟩, low⟩ := ruleBy_some w a
    cases b : told (ruleBy t g2) s with
    | none =>
      rcases ruleBy_none w b with q | q
      · rw [d] at q; cases q
      · exact absurd ⟨_, (hu _ s).mp hl.1⟩ q
    | some j =>
      obtain ⟨_, _, hj, hgj, m, hlj, ⟨y, hy, hyu⟩, lowj⟩ := ruleBy_some w b
      have ls : Least t g1 s (m + 1) := ⟨(hu _ s).mpr hlj.1, fun i hi c => hlj.2 i hi ((hu _ s).mp c)⟩
      have em : m = n := by have := hl.uniq ls; omega
      subst em
      have a1 := low j hj (by rw [h s j m d hj ⟨y, hy, hyu⟩]; exact hgj) ⟨y, hy, (hu _ _).mpr hyu⟩
      have a2 := lowj k hk (by rw [← h s k m d hk ⟨x, hx, (hu _ _).mp hxu⟩]; exact hg) ⟨x, hx, (hu _ _).mp hxu⟩
      rw [show k = j by omega]
/-! ### the likely rule -/
def goodL (t : Task) (s k : Nat) : Bool := Q.same (mean (chances t) (t.act k)) (val (chances t) s) && (val (chances t) s).n != 0
theorem likely_eq (t : Task) : likely t (chances t) = ruleBy t (goodL t) := rfl
theorem goodL_iff {t : Task} (w : Wf t) {s k : Nat} (hk : k < t.acts.length) : goodL t s k = true ↔ wsum (t.act k).outs (bv t) = bv t s * whole (t.act k).outs ∧ bv t s ≠ 0 := by
  have m := R_mean (w.act hk) (val (chances t)) (val_ok (chances_ok w))
  have o := val_ok (chances_ok w) s
  have e1 : Q.same (mean (chances t) (t.act k)) (val (chances t) s) = true ↔ wsum (t.act k).outs (bv t) = bv t s * whole (t.act k).outs := by
    show Q.same (total ((t.act k).chances.map fun x => x.2.times (val (chances t) x.1))) (val (chances t) s) = true ↔ _
    rw [same_iff m.2.1 o.1, m.1]
    exact eq_div (w.act hk).whole_pos
  have e2 : ((val (chances t) s).n != 0) = true ↔ bv t s ≠ 0 := by
    rw [bne_iff_ne]
    exact not_congr (R_eq_zero o.1).symm
  unfold goodL
  rw [Bool.and_eq_true, e1, e2]
theorem bv_nn {t : Task} (w : Wf t) (s : Nat) : 0 ≤ bv t s := by
  obtain ⟨g, bg, _, e⟩ := chances_best w
  rw [e]; exact ((chances_by w bg.valid).bounds w bg.valid s).1
theorem bv_done {t : Task} (w : Wf t) {s : Nat} (d : t.done s = true) : bv t s = 1 := by
  obtain ⟨g, bg, _, e⟩ := chances_best w
  rw [e]; exact (chances_by w bg.valid).done s d
theorem U_bv {t : Task} (w : Wf t) : ∀ n s, U t (goodL t) n s → bv t s ≠ 0
  | 0, s, h => by rw [bv_done w h]; decide
  | n + 1, s, h => by
    rcases h with h | ⟨k, hk, hg, _⟩
    · exact U_bv w n s h
    · exact ((goodL_iff w (mem_acts_.mp hk).1).mp hg).2
theorem likely_told {t : Task} (w : Wf t) {tops : List Int} {bottom : Int} (ok : ValOk t.states (bv t) tops bottom) (s : Nat) :
    told (ruleBy t (goodI (bestIdx t 0 tops bottom (List.range t.acts.length)))) s = told (likely t (chances t)) s := by
  rw [likely_eq]
  refine ruleBy_congr w (fun s k n d hk hx => ?_) s
  obtain ⟨x, hx, hu⟩ := hx
  have m := mem_acts_.mp hk
  rw [Bool.eq_iff_iff, goodI_iff, goodL_iff w m.1]
  unfold bestIdx
  rw [List.mem_filter, List.mem_range, Bool.and_eq_true, eqB_iff w ok m.1, m.2]
  have hg : (!t.goal.contains s) = true := by
    have d' : t.goal.contains s = false := d
    rw [d']; rfl
  simp only [m.1, hg, true_and, Rat.intCast_zero]
  constructor
  · intro h
    refine ⟨by grind, fun z => ?_⟩
    have e : wsum (t.act k).outs (bv t) = 0 := by rw [z] at h; grind
    have q := wsum_eq_of (u := fun _ => 0) (v := bv t) (w.act m.1).pos (fun y _ => bv_nn w y.1) (by rw [e, wsum_const]; grind) x hx
    exact U_bv w n x.1 hu q.symm
  · intro h; grind
/-! ### the cheap rule -/
def firstStep (t : Task) (r : RL) (k : Nat) : RL := if inR r (t.act k).at_ = true then r else putR r (t.act k).at_ k
def firstM (t : Task) (idx : List Nat) : RL := idx.foldl (firstStep t) []
theorem firstStep_look {t : Task} {r : RL} {k s : Nat} : lookR (firstStep t r k) s = (lookR r s).or (if (t.act k).at_ = s then some k else none) := by
  unfold firstStep
  by_cases c : inR r (t.act k).at_ = true
  · rw [if_pos c]
    by_cases e : (t.act k).at_ = s
    · obtain ⟨j, hj⟩ := lookR_in (inR_iff.mp c)
      rw [e] at hj
      rw [hj]; rfl
    · rw [if_neg e]; simp
  · rw [if_neg c, look_put]
    by_cases e : (t.act k).at_ = s
    · have n : lookR r s = none := lookR_none.mpr (fun q => c (inR_iff.mpr (by rw [e]; exact q)))
      rw [if_pos e.symm, if_pos e, n]; rfl
    · rw [if_neg (fun q => e q.symm), if_neg e]; simp
theorem first_look (t : Task) (s : Nat) : ∀ (idx : List Nat) (r : RL), lookR (idx.foldl (firstStep t) r) s = (lookR r s).or (idx.find? fun k => decide ((t.act k).at_ = s))
  | [], r => by simp
  | k :: idx, r => by
    rw [List.foldl_cons, first_look t s idx, firstStep_look, List.find?_cons, Option.or_assoc]
    by_cases e : (t.act k).at_ = s <;> simp [e]
structure Fst (t : Task) (done : List Nat) (r : RL) : Prop where
  nd : (keysR r).Nodup
  each : ∀ x ∈ r, x.2 ∈ done ∧ (t.act x.2).at_ = x.1
  len : r.length ≤ done.length
theorem Fst.step {t : Task} {done : List Nat} {r : RL} (h : Fst t done r) (k : Nat) : Fst t (done ++ [k]) (firstStep t r k) := by
  unfold firstStep
  by_cases c : inR r (t.act k).at_ = true
  · rw [if_pos c]
    exact ⟨h.nd, fun x hx => ⟨List.mem_append_left _ (h.each x hx).1, (h.each x hx).2⟩, by have := h.len; simp; omega⟩
  · rw [if_neg c]
    have e : putR r (t.act k).at_ k = r ++ [((t.act k).at_, k)] := by unfold putR; rw [if_neg c]
    refine ⟨?_, ?_, ?_⟩
    · rw [keys_put, if_neg c]
      refine List.nodup_append.mpr ⟨h.nd, by simp, fun a ha b hb => ?_⟩
      simp at hb; subst hb
      intro q; subst q
      exact c (inR_iff.mpr ha)
    · rw [e]
      intro x hx
      rcases List.mem_append.mp hx with hx | hx
      · exact ⟨List.mem_append_left _ (h.each x hx).1, (h.each x hx).2⟩
      · simp at hx; subst hx
        exact ⟨by simp, rfl⟩
    · rw [e]; have := h.len; simp; omega
theorem fst_all {t : Task} : ∀ (idx done : List Nat) (r : RL), Fst t done r → Fst t (done ++ idx) (idx.foldl (firstStep t) r)
  | [], done, r, h => by simpa using h
  | k :: idx, done, r, h => by
    have := fst_all idx (done ++ [k]) _ (h.step k)
    rw [List.append_assoc] at this
    exact this
theorem fst_ok (t : Task) (idx : List Nat) : Fst t idx (firstM t idx) := by
  have := fst_all (t := t) idx [] [] ⟨by simp [keysR], by simp, by simp⟩
  unfold firstM
  simpa using this
theorem find_filter {α : Type} (p q : α → Bool) : ∀ l : List α, (l.filter p).find? q = l.find? fun a => p a && q a
  | [] => rfl
  | a :: l => by
    rw [List.filter_cons, List.find?_cons]
    cases h : p a with
    | true => simp only [if_true, List.find?_cons, Bool.true_and, find_filter p q l]
    | false => simp only [Bool.false_eq_true, if_false, Bool.false_and, find_filter p q l]
theorem find_congr {α : Type} {p q : α → Bool} : ∀ {l : List α}, (∀ a ∈ l, p a = q a) → l.find? p = l.find? q
  | [], _ => rfl
  | a :: l, h => by
    rw [List.find?_cons, List.find?_cons, h a (by simp), find_congr (l := l) (fun b hb => h b (by simp [hb]))]
theorem cheap_told {t : Task} (w : Wf t) {g : Rule} (bk : BestK t g) {tops : List Int} {bottom : Int} (ok : ValOk t.states (fun s => - kv t g s) tops bottom) (s : Nat) :
    lookR (firstM t (bestIdx t (-1) tops bottom (sureIdx t))) s = told (cheap t (chances t) (costs t)) s := by
  unfold firstM
  rw [first_look]
  have z : lookR ([] : RL) s = none := rfl
  rw [z, Option.none_or]
  unfold cheap
  simp only
  rw [told_map]
  have no : (∀ k, k < t.acts.length → ¬ (t.goal.contains (t.act k).at_ = false ∧ (t.act k).at_ = s)) → (bestIdx t (-1) tops bottom (sureIdx t)).find? (fun k => decide ((t.act k).at_ = s)) = none := fun h => by
    rw [List.find?_eq_none]
    intro k hk q
    unfold bestIdx at hk
    have m := List.mem_filter.mp hk
    rw [Bool.and_eq_true] at m
    exact h k ((mem_sureIdx w).mp m.1).1 ⟨by simpa using m.2.1, by simpa using q⟩
  by_cases c : s < t.states
  · rw [if_pos c]
    cases d : t.done s with
    | true =>
      rw [if_pos rfl]
      refine no fun k hk q => ?_
      have d' : t.goal.contains s = true := d
      rw [q.2, d'] at q
      cases q.1
    | false =>
      rw [if_neg (by decide)]
      unfold bestIdx sureIdx sureActs Task.acts_
      rw [find_filter, find_filter, find_filter, find_filter]
      refine find_congr fun k hk => ?_
      have hk' := List.mem_range.mp hk
      rw [Bool.eq_iff_iff]
      simp only [Bool.and_eq_true, decide_eq_true_iff, beq_iff_eq]
      have ct := fun u => costs_told w bk u
      have rc := R_costK w (e := fun s => ((costs t).getD s none).getD zero) (fun u => (ct u).2.1) hk'
      have P : Q.same ((Q.of ((t.act k).cost : Int)).plus (total ((t.act k).chances.map fun x => x.2.times (((costs t).getD x.1 none).getD zero)))) (((costs t).getD s none).getD zero) = true ↔ wsum (t.act k).outs (kv t g) + (t.act k).cost * whole (t.act k).outs = kv t g s * whole (t.act k).outs := by
        rw [same_iff rc.2.1 (ct s).2.1.1, rc.1, (ct s).2.2]
        unfold costV
        have ef : (fun s => R (((costs t).getD s none).getD zero)) = kv t g := by funext u; exact (ct u).2.2
        rw [ef]
        have wp := (w.act hk').whole_pos
        generalize wsum (t.act k).outs (kv t g) = x
        generalize whole (t.act k).outs = W at *
        constructor
        · intro h; rw [← h]; grind
        · intro h
          have : x / W = kv t g s - (t.act k).cost := (eq_div wp).mpr (by grind)
          grind
      rw [P, eqB_iff w ok hk']
      simp only [wsum_neg, Rat.intCast_neg, Rat.intCast_one]
      constructor
      · rintro ⟨h1, ⟨h2, h3⟩, h4⟩
        rw [h4] at h3
        refine ⟨h4, ⟨?_, h1⟩, by grind⟩
        rw [same_bv w]
        refine sure_from w (mem_acts_.mpr ⟨hk', h4⟩) d fun x hx => ?_
        have := List.all_eq_true.mp h1 x hx
        rwa [same_bv w] at this
      · rintro ⟨h4, ⟨_, h1⟩, h3⟩
        rw [h4]
        refine ⟨h1, ⟨?_, by grind⟩, rfl⟩
        have d' : t.goal.contains s = false := d
        rw [d']; rfl
  · rw [if_neg c]
    refine no fun k hk q => c ?_
    rw [← q.2]; exact w.at_ _ (act_mem hk)
/-! ### how a rule is told -/
theorem flat_filter {α β : Type} (p : α → Bool) (g h : α → List β) (h1 : ∀ a, p a = true → g a = h a) (h2 : ∀ a, p a = false → g a = []) : ∀ l : List α, l.flatMap g = (l.filter p).flatMap h
  | [] => rfl
  | a :: l => by
    rw [List.flatMap_cons, List.filter_cons, flat_filter p g h h1 h2 l]
    cases c : p a with
    | true => rw [if_pos rfl, List.flatMap_cons, h1 a c]
    | false => rw [if_neg (by decide), h2 a c, List.nil_append]
theorem rule_map {f : Rule} : f = (List.range f.length).map (told f) := by
  refine List.ext_getElem (by simp) fun i h1 h2 => ?_
  simp only [List.getElem_map, List.getElem_range]
  unfold told
  rw [List.getD_eq_getElem?_getD, List.getElem?_eq_getElem h1]; rfl
theorem rule_out {f : Rule} {rl : RL} (nd : (keysR rl).Nodup) (h : ∀ s, lookR rl s = told f s) {o : List Nat} (p : o.Perm (keysR rl)) (srt : o.Pairwise (· ≤ ·)) :
    Pn08Neutral.out ⟨((f.filter fun x => x.isSome).length : Nat), ruleRow f⟩ = (rl.length : Int) :: o.flatMap fun (s : Nat) => [(s : Int), (((lookR rl s).getD 0 : Nat) : Int)] := by
  have eo : o = (List.range f.length).filter fun s => (told f s).isSome := by
    refine List.Perm.eq_of_pairwise (le := (· ≤ ·)) (fun a b _ _ h1 h2 => Nat.le_antisymm h1 h2) srt ((List.pairwise_lt_range.imp Nat.le_of_lt).filter _) (p.trans ?_)
    refine (List.perm_ext_iff_of_nodup nd (nodup_range_filter _ _)).mpr fun s => ?_
    rw [List.mem_filter, List.mem_range, ← h]
    constructor
    · intro hs
      obtain ⟨k, hk⟩ := lookR_in hs
      exact ⟨told_lt (by rw [← h]; exact hk), by rw [hk]; rfl⟩
    · rintro ⟨_, q⟩
      obtain ⟨k, hk⟩ := Option.isSome_iff_exists.mp q
      exact List.mem_map.mpr ⟨_, lookR_some hk, rfl⟩
  have el : (f.filter fun x => x.isSome).length = rl.length := by
    have e1 : (f.filter fun x => x.isSome).length = o.length := by
      rw [eo]
      conv => lhs; rw [rule_map (f := f)]
      rw [List.filter_map, List.length_map]; rfl
    rw [e1, p.length_eq]; unfold keysR; simp
  have er : ruleRow f = o.flatMap fun s => [s, (lookR rl s).getD 0] := by
    rw [eo]
    unfold ruleRow
    refine flat_filter _ _ _ (fun s hs => ?_) (fun s hs => ?_) _
    · obtain ⟨k, hk⟩ := Option.isSome_iff_exists.mp hs
      rw [h, hk]; rfl
    · cases q : told f s with
      | none => rfl
      | some k => rw [q] at hs; cases hs
  unfold Pn08Neutral.out
  simp only [el, er]
  rw [List.map_flatMap]
  rfl
end By

set_option maxRecDepth 100000
set_option maxHeartbeats 2000000
/-! Four rules that the layer lacks: d.update(e), sum(d.values()), dict(zip(xs, ys)), xs[a::2]. -/
namespace ByR
open PySem PySem.Spec PyProof.Rows L2
/-! ### d.update(e) -/
def rUpd : V → List V → Hp → VK → Prop := fun x vs H Q => ∃ (a b : Addr) (kvs more : List (Key × V)), x = .ref a ∧ vs = [.ref b] ∧ H a = some (.dK kvs) ∧ H b = some (.dK more) ∧ a ≠ b ∧ kvs.length + more.length ≤ sizeLine ∧ Q .non (upd H a (.dK (mergeK kvs more)))
theorem mtd_update {X : Cx} : MtR X "dict.update" rUpd := by
  intro pins s σ H x vs v us Q I rx rv h
  obtain ⟨a, b, kvs, more, ex, ev, ea, eb, ne, hz, q⟩ := h
  subst ex
  subst ev
  obtain rfl : v = Value.ref a := rx
  obtain ⟨u, eu, ru⟩ := rv.one
  subst eu
  obtain rfl : u = Value.ref b := ru
  obtain ⟨z, hd, vs, rel, dd⟩ := dk_of I.hok ea
  obtain ⟨z2, hd2, vs2, rel2, dd2⟩ := dk_of I.hok eb
  refine call_meetsIn PySem.F.slot_dict_update dd.typeIs PySem.F.entry_dict_update (PySem.F.args_dict_update_2 _ _) (meets_dict_update (mixKind X.prog X.w) a b ne hd2) ⟨vs, vs2, dd, dd2, by rw [← rel.length, ← rel2.length]; exact hz, fun h' dd' _ hs => ?_⟩
  have he : ∃ q, h'.get? a = some q := let ⟨q, _, _, hq, _⟩ := dd'; ⟨q, hq⟩
  have hl : (mergeK kvs more).length ≤ sizeLine := Nat.le_trans (length_mergeK more kvs) hz
  exact ⟨.non, _, d_write (t' := s.toks) I (by rw [ea]; exact True.intro) hs he (dk_new hl hd (KV.merge rel2 rel) dd'), rfl, q⟩

/-! ### sum(d.values()) -/
def tSumVals (td : TE) : TE := fun σ H Q => td σ H fun x H1 => ∃ (a : Addr) (kvs : List (Key × V)) (is : List Int), x = V.ref a ∧ H1 a = some (.dK kvs) ∧ kvs.map (·.2) = is.map V.int ∧ Q (.int is.sum) H1
theorem pre_sum : ∀ (is : List Int), preSum (fun i => is.getD i 0) is.length = is.sum := by
  have key : ∀ (is : List Int) (n : Nat), n ≤ is.length → preSum (fun i => is.getD i 0) n = (is.take n).sum := by
    intro is n
    induction n with
    | zero => intro _; rfl
    | succ n ih =>
      intro h
      have e : is[n]? = some is[n] := List.getElem?_eq_getElem h
      rw [List.take_add_one, e, List.sum_append, ← ih (by omega)]
      show preSum _ n + is.getD n 0 = _
      rw [List.getD_eq_getElem?_getD, e]
      simp
  intro is
  rw [key is is.length (Nat.le_refl _), List.take_length]
section
variable {X : Cx} {o : Expr} {p pos apos mpos : Pos} {td : TE}
/-- sum over the view of a dict's values that are ints -/
theorem sum_view {A : Around} {E : Value → Shared → Prop} {st : Shared} {vw d : Addr} {es : List (Key × Value)} {ep : Nat} {ns : List Int} {Q : Value → Shared → Prop} (calmA : A.handled = none)
    (isView : st.heap.IsValuesView vw d) (table : st.heap.DictAt (mixKind X.prog X.w) d es ep) (len : es.length = ns.length) (nums : ∀ (i : Nat) (x : Value), (∃ k, es[i]? = some (k, x)) → ∃ tk, x = Value.int (ns.getD i 0) tk)
    (fin : ∀ (h2 : Heap) (n2 : Nat) (tk : Tok), (∀ c y, st.heap.get? c = some y → h2.get? c = some y) → Q (.int ns.sum tk) { st with heap := h2, toks := n2 }) :
    wpAny (model X.prog X.w) A (call (.builtin "sum") [.ref vw]) Q E st := by
  have src := PySem.W.kdl_values (prog := X.prog) (w := X.w) (knd := mixKind X.prog X.w) (kvs := es) (ep := ep) (r := vw) (d := d)
  have both : st.heap.IsValuesView vw d ∧ st.heap.DictAt (mixKind X.prog X.w) d es ep := ⟨isView, table⟩
  refine call_sum_walkAnyS ?_
  obtain ⟨itO, St0, begin0, walk0, first0⟩ := src.iter A.in1 st calmA both
  refine begin0 _ _ ⟨st.heap.objs.size, _, _, _, es.length, _, _, fun i => ns.getD i 0, rfl, walk0.toS, first0, fun c hc => ?_, nums, fun st2 tk moved => ?_⟩
  · have grown : (st.heap.push itO).objs.size = st.heap.objs.size + 1 := Heap.size_push _ _
    show c < (st.heap.push itO).objs.size
    rw [grown]
    rcases List.mem_cons.mp hc with rfl | hc
    · exact Nat.lt_succ_self _
    · obtain rfl := List.mem_singleton.mp hc
      exact Nat.lt_succ_of_lt (src.there _ both).2
  · rw [len, pre_sum, Moved.eq_with moved]
    refine fin _ _ _ fun c y there => moved.heap c y (fun isIt => ?_) (Heap.get?_push_of_some _ there)
    have small := Heap.lt_size there
    rw [List.mem_singleton.mp isIt] at small
    exact Nat.lt_irrefl _ small
theorem pe_sumVals (calm : X.calm = true) (glob : Gl X "sum") (free : X.mg "sum" = none) (he : PE X o td) (hbase : attributeBase o "values" X.env (eval o X.env) = eval o X.env := by rfl) (hline : (apos.endLine == mpos.line) = true := by rfl)
    (args : starEach [Expr.Call (.Attribute o "values" apos) [] [] mpos] X.env = [(false, eval (Expr.Call (.Attribute o "values" apos) [] [] mpos) X.env)] := by rfl) :
    PE X (.Call (.Name "sum" p) [.Call (.Attribute o "values" apos) [] [] mpos] [] pos) (tSumVals td) := ⟨fun pins st σ H Q inv want => by
  refine wpAny_Call_Name_kw (ld_blt inv glob free (u := .builtin "sum") (by first | rfl | decide +kernel) ?_ (by first | decide +kernel | decide) (by first | decide +kernel | decide))
  rw [args]
  refine PySem.callWith_builtin1 (wpAny_Call_method0_late hbase hline (thn (he.run pins st σ H _ inv want) fun _ st1 ⟨_, H1, inv1, rel1, d, kvs, ns, isD, held, vals, done⟩ => ?_))
  subst isD
  cases rel1
  obtain ⟨_, notSys, es, pairs, table⟩ := dk_of inv1.hok held
  obtain ⟨ep, tableAt⟩ := table.dictAt
  obtain ⟨ob, _, obAt, exact_, _⟩ := id tableAt
  have sameLen : es.length = ns.length := (KV.length pairs).symm.trans (by simpa using congrArg List.length vals)
  have nums : ∀ (i : Nat) (x : Value), (∃ k, es[i]? = some (k, x)) → ∃ tk, x = Value.int (ns.getD i 0) tk := by
    rintro i x ⟨k, at_⟩
    obtain ⟨y, aty, rely⟩ := KV.at' pairs at_
    have inVals : (ns.map V.int)[i]? = some y := by rw [← vals, List.getElem?_map, aty]; rfl
    rw [List.getElem?_map, Option.map_eq_some_iff] at inVals
    obtain ⟨n, atn, rfl⟩ := inVals
    obtain ⟨tk, rfl⟩ := rely
    exact ⟨tk, by rw [List.getD_eq_getElem?_getD, atn]; rfl⟩
  refine ⟨"dict", "dict.values", PySem.F.plainAttrs_dict, PySem.F.slot_dict_values, PySem.F.type_dict_values, ⟨ob, obAt, exact_.1⟩, fun _ same => by cases same; exact ⟨ob, obAt, exact_.2.1⟩, Calls.callWith_builtin rfl (PySem.evalArgs_none ?_)⟩
  refine call_meetsIn PySem.F.slot_dict_values ⟨ob, obAt, exact_.1⟩ PySem.F.entry_dict_values (PySem.F.args_dict_values_1 _) (meets_dict_values (mixKind X.prog X.w) d notSys) ⟨⟨es, table⟩, ?_⟩
  refine sum_view (X := X) (inv.ok.hd calm) ⟨_, Heap.get?_push_size _ rfl, rfl, rfl⟩ (tableAt.keep fun _ _ e => Heap.get?_push_of_some _ e) sameLen nums fun h2 n2 tk kept => ?_
  exact ⟨.int _, H1, inv1.kept fun c y there => kept c y (Heap.get?_push_of_some _ there), ⟨tk, rfl⟩, done⟩⟩
end
/-! ### dict(zip(xs, ys)) -/
def tDictZip (K : PySem.W.Frag) (ta : TA) : TE := fun σ H Q => ta σ H fun vs H1 => ∃ (a b : Addr) (ks : List Key) (ys : List V), vs = [.ref a, .ref b] ∧ SqL K H1 a (ks.map kV) ∧ SqL K H1 b ys ∧ ks.length = ys.length ∧
  ∀ p, H1 p = none → Q (.ref p) (upd H1 p (.dK (mergeK [] (ks.zip ys))))
theorem key_of {k : Key} {v : Value} (r : RelV (kV k) v) {P : Program} {w : World} : (mixKind P w).is k v = true := kV_is r
theorem Vals.atI {xs : List V} {its : List Value} (r : Vals xs its) : ∀ {i : Nat} {v : Value}, its[i]? = some v → ∃ x, xs[i]? = some x ∧ RelV x v := by
  induction r with
  | nil => intro i v e; simp at e
  | @cons x u xs us rx _ ih =>
    intro i v e
    cases i with
    | zero => simp at e; subst e; exact ⟨x, rfl, rx⟩
    | succ i => simpa using ih (i := i) (v := v) (by simpa using e)
theorem pe_dictZip {X : Cx} {e e2 : Expr} {ta : TA} {p pos p2 pos2 : Pos} (hc : X.calm = true) (hgd : Gl X "dict") (hmd : X.mg "dict" = none) (hg : Gl X "zip") (hm : X.mg "zip" = none) (ha : PA X [e, e2] ta)
    (hs : starEach [e, e2] X.env = (false, eval e X.env) :: starEach [e2] X.env := by rfl) (hpl : (backTo pos (starEach [e2] X.env)).any (·.1) = false := by rfl)
    (hse : backTo pos2 (starEach [Expr.Call (.Name "zip" p) [e, e2] [] pos] X.env) = [(false, eval (Expr.Call (.Name "zip" p) [e, e2] [] pos) X.env)] := by rfl) :
    PE X (.Call (.Name "dict" p2) [.Call (.Name "zip" p) [e, e2] [] pos] [] pos2) (tDictZip X.K ta) := by
  refine ⟨fun pins s σ H Q I h => ?_⟩
  refine wpAny_Call_Name_kw (ld_blt I hgd hmd (u := .type "dict") (by first | rfl | decide +kernel) ?_ (by first | decide +kernel | decide) (by first | decide +kernel | decide))
  rw [hse]
  refine PySem.callWith_type1 (Call_ (ld_blt I hg hm PyProof.Rows.boot_zip (PyProof.Rows.callWith_type1 (thn (ha.run pos pins s σ H _ I h) fun us s1 ⟨vs, H1, I1, r1, q1⟩ => ?_) hs hpl)))
  obtain ⟨a, b, ks, ys, ex, hqx, hqy, hlen, q⟩ := q1
  subst ex
  cases r1 with
  | cons r rr =>
    cases rr with
    | cons r' rr =>
      cases rr
      cases r
      cases r'
      obtain ⟨its, rv, pl1, hz1⟩ := I1.list hqx
      obtain ⟨its2, rv2, pl2, hz2⟩ := I1.list hqy
      have la : a < s1.heap.objs.size := pl1.lt
      have lb : b < s1.heap.objs.size := pl2.lt
      refine call_zip_2 pl1.isList pl2.isList fun h' hz hTI hTO h1 h2 hsz hk => ?_
      have l1 := rv.length
      have l2 := rv2.length
      have hn : min its.toArray.size its2.toArray.size = ks.length := by
        rw [List.length_map] at l1
        rw [List.size_toArray, List.size_toArray]
        omega
      have ap := PySem.W.ktu_apart s1.heap.objs.size a b la lb
      refine PySem.call_dict_pairs (s := { s1 with heap := h' }) (knd := mixKind X.prog X.w) (kvs := ks.zip its2) (PairArg.zip (prog := X.prog) (w := X.w) _ _ _ _ _ _ _ ap its.toArray its2.toArray) (I1.ok.hd hc)
        ⟨hz, hTI, ⟨_, _, hTO⟩, h1, h2, pl1.isList.at fun o e => hk _ o e, pl2.isList.at fun o e => hk _ o e⟩ ⟨?_, ?_⟩ ?_ ?_
      · rw [hn, List.length_zip]
        omega
      · intro i key v ⟨e1, e3⟩
        rw [List.getElem?_toArray] at e1 e3
        obtain ⟨x, hx, rx⟩ := Vals.atI rv e1
        rw [List.getElem?_map] at hx
        obtain ⟨k, hk', rfl⟩ := Option.map_eq_some_iff.mp hx
        refine ⟨k, ?_, key_of rx⟩
        rw [List.getElem?_zip_eq_some]
        exact ⟨hk', e3⟩
      · rw [hn]
        rw [List.length_map] at hz1
        exact hz1
      · intro h2' tk dd hk2
        have hsz' : s1.heap.objs.size ≤ h'.objs.size := by omega
        have kk : ∀ b u, s1.heap.get? b = some u → h2'.get? b = some u := fun b u e => hk2 b u (fun hI => by
          have := Heap.lt_size e
          simp only [List.mem_cons, List.not_mem_nil, or_false] at hI
          rcases hI with z | z | z | z
          · rw [z] at this; exact absurd this (Nat.not_lt.mpr (Nat.le_add_right _ _))
          · rw [z] at this; exact absurd this (Nat.not_lt.mpr (Nat.le_add_right _ _))
          · rw [z] at this; exact absurd this (Nat.lt_irrefl _)
          · rw [z] at this; exact absurd this (Nat.not_lt.mpr (Nat.le_add_right _ _))) (hk b u e)
        have hm2 : (h'.objs.size == sysModules) = false := beq_eq_false_iff_ne.mpr (by rw [hsz]; exact Nat.ne_of_gt (Nat.lt_of_lt_of_le I1.big (Nat.le_add_right _ _)))
        have rel : KV (ks.zip ys) (ks.zip its2) := by
          unfold KV
          have : ∀ (ks : List Key) (ys : List V) (its : List Value), Vals ys its → Paired (fun p q => p.1 = q.1 ∧ RelV p.2 q.2) (ks.zip ys) (ks.zip its) := by
            intro ks
            induction ks with
            | nil => intro ys its _; exact .nil
            | cons k ks ih =>
              intro ys its r
              cases r with
              | nil => exact .nil
              | cons r rr => exact .cons ⟨rfl, r⟩ (ih _ _ rr)
          exact this ks ys its2 rv2
        have hl : (mergeK [] (ks.zip ys)).length ≤ sizeLine := by
          refine Nat.le_trans (length_mergeK (ks.zip ys) []) ?_
          rw [List.length_nil, Nat.zero_add, List.length_zip]
          omega
        exact ⟨.ref h'.objs.size, upd H1 h'.objs.size (.dK (mergeK [] (ks.zip ys))), I1.laid (t' := tk) kk hsz' (show ObjOk X.prog X.w _ _ _ (.dK (mergeK [] (ks.zip ys))) from ⟨hl, hm2, _, KV.merge rel .nil, dd⟩), rfl, q _ (I1.hok.fresh hsz')⟩
/-! ### xs[c::2] -/
open By (ev2)
theorem ev2_pick {α : Type} : ∀ (l : List α), (List.range ((l.length + 1) / 2)).filterMap (fun k => l[2 * k]?) = ev2 l
  | [] => by simp [By.ev2]
  | [a] => by simp [By.ev2, List.range_succ]
  | a :: b :: r => by
    have ih := ev2_pick r
    have e : ((a :: b :: r).length + 1) / 2 = (r.length + 1) / 2 + 1 := by simp only [List.length_cons]; omega
    rw [e, List.range_succ_eq_map, List.filterMap_cons]
    simp only [Nat.mul_zero, List.getElem?_cons_zero, By.ev2, List.filterMap_map]
    rw [← ih]
    rfl
theorem ev2_map {α β : Type} (f : α → β) : ∀ (l : List α), (ev2 l).map f = ev2 (l.map f)
  | [] => rfl
  | [a] => rfl
  | a :: b :: r => by simp only [By.ev2, List.map_cons, ev2_map f r]
theorem ev2_len {α : Type} : ∀ (l : List α), (ev2 l).length = (l.length + 1) / 2
  | [] => by simp [By.ev2]
  | [a] => by simp [By.ev2]
  | a :: b :: r => by simp only [By.ev2, List.length_cons, ev2_len r]; omega
theorem ev2_vals : ∀ {xs : List V} {its : List Value}, Vals xs its → Vals (ev2 xs) (ev2 its)
  | _, _, .nil => .nil
  | _, _, .cons r .nil => .cons r .nil
  | _, _, .cons r (.cons _ rr) => .cons r (ev2_vals rr)
theorem vals_drop : ∀ {n : Nat} {xs : List V} {its : List Value}, Vals xs its → Vals (xs.drop n) (its.drop n)
  | 0, _, _, r => r
  | _ + 1, _, _, .nil => .nil
  | n + 1, _, _, .cons _ rr => vals_drop (n := n) rr
theorem step_pick (items : Array Value) (c : Nat) : slicePick items (some (c : Int)) none (some 2) = (ev2 (items.toList.drop c)).toArray := by
  unfold slicePick
  have hb : sliceBounds (some (c : Int)) none (some 2) items.size = (min (c : Int) items.size, (items.size : Int), 2) := by
    simp only [sliceBounds, Option.getD_some]
    have h1 : ¬ ((c : Int) < 0) := by omega
    rw [if_neg h1]
    simp only [show (2 : Int) > 0 by decide, if_true]
    congr 1
    omega
  rw [hb]
  simp only
  congr 1
  rw [← ev2_pick]
  unfold sliceRange
  simp only [show (2 : Int) > 0 by decide, if_true]
  by_cases h : c < items.size
  · have e : min (c : Int) items.size = c := by omega
    rw [e, if_pos (by omega)]
    have ec : (((items.size : Int) - c + 2 - 1) / 2).toNat = ((items.toList.drop c).length + 1) / 2 := by
      rw [List.length_drop, Array.length_toList]; omega
    rw [ec, List.filterMap_map]
    congr 1
    funext k
    have ek : ((c : Int) + 2 * (k : Int)).toNat = c + 2 * k := by omega
    simp only [Function.comp, ek, List.getElem?_drop, Array.getElem?_toList]
  · have e : min (c : Int) items.size = items.size := by omega
    rw [e, if_neg (by omega)]
    have ed : items.toList.drop c = [] := List.drop_eq_nil_of_le (by rw [Array.length_toList]; omega)
    rw [ed]
    rfl
def tStep (K : PySem.W.Frag) (c : Nat) (te : TE) : TE := fun σ H Q => te σ H fun x H1 => ∃ a xs, x = .ref a ∧ SqL K H1 a xs ∧ ∀ p, H1 p = none → Q (.ref p) (upd H1 p (.lst (ev2 (xs.drop c))))
theorem pe_step {X : Cx} {e : Expr} {te : TE} (c : Nat) {k k2 : Nat} {p1 p2 p3 pos : Pos} (he : PE X e te) : PE X (.Subscript e (.Slice (some (.Constant (.int (c : Int)) k p1)) none (some (.Constant (.int 2) k2 p2)) p3) pos) (tStep X.K c te) := ⟨fun pins st σ H Q inv want => by
  have poC : PO X (some (.Constant (.int (c : Int)) k p1)) (tPart (tC (.int (c : Int)))) := po_some pe_int
  have po2 : PO X (some (.Constant (.int 2) k2 p2)) (tPart (tC (.int 2))) := po_some pe_int
  refine Subscript_ (thn (he.run pins st σ H _ inv want) fun _ sa ⟨_, Ha, inva, rela, l, xs, isL, held, done⟩ => ?_)
  subst isL
  cases rela
  refine wpAny_Slice (thn (poC.run pins sa σ Ha (fun part Hb => part = some (c : Int) ∧ Hb = Ha) inva ⟨_, rfl, rfl, rfl⟩) fun vlo sb ⟨_, Hb, invb, partLo, isLo, sameb⟩ => ?_)
  subst isLo sameb
  refine thn (po_none.run pins sb σ Hb (fun part Hc => part = none ∧ Hc = Hb) invb ⟨rfl, rfl⟩) fun vhi sc ⟨_, Hc, invc, partHi, isHi, samec⟩ => ?_
  subst isHi samec
  refine thn (po2.run pins sc σ Hc (fun part Hd => part = some 2 ∧ Hd = Hc) invc ⟨_, rfl, rfl, rfl⟩) fun vst sd ⟨_, Hd, invd, partSt, isSt, samed⟩ => ?_
  subst isSt samed
  have inve : L2.Inv X pins σ Hd { sd with heap := sd.heap.push { cls := .type "slice", data := .fields #[vlo, vhi, vst] } } := invd.kept (t' := sd.toks) fun _ _ e => Heap.get?_push_of_some _ e
  obtain ⟨items, rels, isList, fits⟩ := inve.list held
  have lens := rels.length
  show wpAny (model X.prog X.w) X.A (subscriptTail e (.Slice (some (.Constant (.int (c : Int)) k p1)) none (some (.Constant (.int 2) k2 p2)) p3) (.ref l) (.ref sd.heap.objs.size)) (EP X pins σ Q) X.xe { sd with heap := sd.heap.push { cls := .type "slice", data := .fields #[vlo, vhi, vst] } }
  refine tail_any (ops := [.ref l, .ref sd.heap.objs.size]) isList.isList.typeIs (PySem.slot_list_getitem.lookup) ?_ (by with_unfolding_all rfl)
  refine wpAny_getItem_list_slice isList.isList (Heap.IsSliceOf.new _ vlo vhi vst) partLo partHi partSt (by decide) ?_ (by rw [List.size_toArray]; omega)
  rw [step_pick]
  refine ⟨.ref _, _, inve.laid (t' := sd.toks) (o := .lst (ev2 (xs.drop c))) (fun _ _ e => Heap.get?_push_of_some _ e) (Nat.le_refl _) ?_, rfl, done _ (inve.hok.fresh (Nat.le_refl _))⟩
  exact ⟨by rw [ev2_len, List.length_drop]; omega, _, 0, ev2_vals (vals_drop rels), Heap.get?_push_size _ rfl⟩⟩
end ByR

set_option maxRecDepth 100000
set_option maxHeartbeats 2000000
/-! ByH0: the text by places, words for the heap, for loops and for comprehensions. -/
namespace ByH
open PySem PySem.Spec PyProof.Rows L2 ByR
def top (i : Nat) : Stmt := PySem.Challenge.pw_bychancedesk_s01_answers.main.body.getD i (.Pass ⟨0, 0, 0, 0⟩)
abbrev iv (l : List Int) : List V := l.map V.int
theorem same_upd {H H' : Hp} {p : Addr} {o : HO} (s : Same H H') (h : H p = none) : Same H (upd H' p o) := fun b u e => by
  rw [upd_ne (ne_of_none e h)]; exact s b u e
theorem same_new {H : Hp} {p : Addr} {o : HO} (h : H p = none) : Same H (upd H p o) := same_upd (Same.refl H) h
theorem take_succ {α : Type} {l : List α} {i : Nat} {x : α} (h : l[i]? = some x) : l.take (i + 1) = l.take i ++ [x] := by
  rw [List.take_add_one, h]; rfl
/-- one item more behind a comprehension's turn -/
theorem lc_more {H1 H H4 : Hp} {D : Addr} {ys : List V} {i : Nat} {y : V} (nD : H1 D = none) (s : Same H1 H) (hD : H D = some (.lst (ys.take i))) (s4 : Same H H4) (hy : ys[i]? = some y) (hz : ys.length ≤ 1000) :
    ∃ acc, H4 D = some (.lst acc) ∧ acc.length < sizeLine ∧ (Same H1 (upd H4 D (.lst (acc ++ [y]))) ∧ (upd H4 D (.lst (acc ++ [y]))) D = some (.lst (ys.take (i + 1)))) := by
  refine ⟨_, s4 _ _ hD, ?_, same_upd (s.trans s4) nD, ?_⟩
  · rw [List.length_take]
    have e : 1000 < sizeLine := by decide
    omega
  · rw [upd_same, take_succ hy]
theorem iv_get {l : List Int} {i : Nat} (h : i < l.length) : (iv l)[i]? = some (.int (l.getD i 0)) := by
  rw [List.getElem?_map, List.getElem?_eq_getElem h, List.getD_eq_getElem?_getD, List.getElem?_eq_getElem h]; rfl
theorem iv_of {l : List Int} {i : Nat} {y : V} (h : (iv l)[i]? = some y) (hi : i < l.length) : y = .int (l.getD i 0) := by
  rw [iv_get hi] at h; exact (Option.some.inj h).symm
theorem iv_at {l : List Int} {i : Nat} (h : i < l.length) : atI (iv l) (i : Int) = some (.int (l.getD i 0)) := atI_nat (iv_get h)
theorem getD_in {l : List Int} {i : Nat} (h : i < l.length) : l.getD i 0 ∈ l := By.getD_mem h
theorem mulW {i j : Int} (hi : i.natAbs < 2 ^ 9000) (hj : j.natAbs < 2 ^ 9000) : CMulW i j := wide_mul hi hj (by decide) (by decide) (by decide)
theorem sq_ne {K : PySem.W.Frag} {H : Hp} {a D : Addr} {o : HO} {xs : List V} (h : SqL K H a xs) (ne : a ≠ D) : SqL K (upd H D o) a xs := by
  rcases h with (h | ⟨u, h⟩) | h
  · exact .inl (.inl (by rw [upd_ne ne]; exact h))
  · exact .inl (.inr ⟨u, by rw [upd_ne ne]; exact h⟩)
  · exact .inr h
theorem paired_at {α β : Type} {F : α → β → Prop} : ∀ {l1 : List α} {l2 : List β}, Paired F l1 l2 → ∀ {i : Nat} {b : β}, l2[i]? = some b → ∃ a, l1[i]? = some a ∧ F a b
  | _, _, .nil, i, b, h => by simp at h
  | _, _, .cons r t, 0, b, h => by simp at h; subst h; exact ⟨_, rfl, r⟩
  | _, _, .cons r t, i + 1, b, h => by simpa using paired_at t (i := i) (by simpa using h)
theorem paired_len {α β : Type} {F : α → β → Prop} : ∀ {l1 : List α} {l2 : List β}, Paired F l1 l2 → l1.length = l2.length
  | _, _, .nil => rfl
  | _, _, .cons _ t => by simp [paired_len t]
theorem paired_more {α β : Type} {F : α → β → Prop} : ∀ {l1 : List α} {l2 : List β} {a : α} {b : β}, Paired F l1 l2 → F a b → Paired F (l1 ++ [a]) (l2 ++ [b])
  | _, _, _, _, .nil, h => .cons h .nil
  | _, _, _, _, .cons r t, h => .cons r (paired_more t h)
/-- rows of whole numbers, each a list of its own -/
def RowsAt (H : Hp) (ps : List Addr) (rows : List (List Int)) : Prop := Paired (fun p r => H p = some (.lst (iv r))) ps rows
theorem RowsAt.same {H H' : Hp} {ps : List Addr} {rows : List (List Int)} (h : RowsAt H ps rows) (s : Same H H') : RowsAt H' ps rows := Paired.mapP h fun _ _ q => s _ _ q
theorem ref_of {ps : List Addr} {i : Nat} {p : Addr} (h : ps[i]? = some p) : (ps.map V.ref)[i]? = some (V.ref p) := by rw [List.getElem?_map, h]; rfl
/-- rows beside the list D that is being made -/
def RowsBy (D : Addr) (H : Hp) (ps : List Addr) (rows : List (List Int)) : Prop := Paired (fun p r => p ≠ D ∧ H p = some (.lst (iv r))) ps rows
theorem lcr_more {H' H2 H4 : Hp} {D p : Addr} {ds : List Addr} {rs : List (List Int)} {j : Nat} {r : List Int} (nD : H' D = none) (s2 : Same H' H2) (hD : H2 D = some (.lst (ds.map V.ref))) (hd : RowsBy D H2 ds (rs.take j)) (s4 : Same H2 H4)
    (hr : rs[j]? = some r) (np : p ≠ D) (hp : H4 p = some (.lst (iv r))) (hz : rs.length ≤ 1000) :
    ∃ acc, H4 D = some (.lst acc) ∧ acc.length < sizeLine ∧ (Same H' (upd H4 D (.lst (acc ++ [V.ref p]))) ∧ ∃ ds' : List Addr, (upd H4 D (.lst (acc ++ [V.ref p]))) D = some (.lst (ds'.map V.ref)) ∧ RowsBy D (upd H4 D (.lst (acc ++ [V.ref p]))) ds' (rs.take (j + 1))) := by
  refine ⟨_, s4 _ _ hD, ?_, same_upd (s2.trans s4) nD, ds ++ [p], ?_, ?_⟩
  · have l := paired_len hd
    rw [List.length_map, l, List.length_take]
    have e : 1000 < sizeLine := by decide
    omega
  · rw [upd_same, List.map_append]; rfl
  · rw [take_succ hr]
    refine paired_more (Paired.mapP hd fun q r ⟨n, h⟩ => ⟨n, ?_⟩) ⟨np, ?_⟩
    · rw [upd_ne n]; exact s4 _ _ h
    · rw [upd_ne np]; exact hp
end ByH

set_option maxRecDepth 100000
set_option maxHeartbeats 2000000
namespace ByH
open PySem PySem.Spec PyProof.Rows L2 ByR
abbrev sWithout : Stmt := top 25
abbrev nWithout : List Str := ["row", "chosen", "place", "own", "taken"]
theorem scWithout : FnScope nWithout ["row", "chosen", "place"] (defScope sWithout) := ⟨rfl, rfl, rfl, by decide +kernel, rfl, by decide +kernel, by decide +kernel⟩
def spWithout (K : PySem.W.Frag) : Sp := fun vs H Q _ => ∃ (a b : Addr) (row chosen : List Int) (p : Nat), vs = [.ref a, .ref b, .int p] ∧ SqL K H a (iv row) ∧ SqL K H b (iv chosen) ∧ row.length = chosen.length ∧ row.length ≤ 100 ∧ p < row.length ∧
  (∀ x ∈ row, x.natAbs < 2 ^ 9000) ∧ (∀ x ∈ chosen, x.natAbs < 2 ^ 9000) ∧
  ∀ (H' : Hp) (d : Addr), Same H H' → H d = none → H' d = some (.lst (iv (By.withoutM row chosen (chosen.getD p 0) (row.getD p 0)))) → Q (.ref d) H'
section
variable {P : Program} {w : World} {K : PySem.W.Frag} {mg : Str → Option Value} {base : Heap}
theorem ok_without {f : Addr} {fd : FuncData} (F : Fun K "without" "without" sWithout f fd) (mZ : mg "zip" = none) : FnOk P w K mg base CX0 1 f fd ["row", "chosen", "place"] (spWithout K) := by
  refine F.ok scWithout (fun vs H Q E h => ?_) (fun cdv A outer s H vs Q E hr h => ?_)
  · obtain ⟨a, b, row, chosen, p, rfl, _⟩ := h
    rfl
  · obtain ⟨a, b, row, chosen, p, rfl, ha, hb, hl, hz, hp, fr, fc, k⟩ := h
    refine ⟨_, pss_one (ps_ret (pe_lc (own := [("own", 3), ("taken", 4)]) (tt := tYes) (g := gTup K 2 (gCons (gName 3) (gCons (gName 4) gNil)))
      (te := tOp (rI0 fun i j => .int (i - j)) (tOp (rI CMulW fun i j => .int (i * j)) (tVar 3) (tOp (rIxL K) (tVar 1) (tVar 2))) (tOp (rI CMulW fun i j => .int (i * j)) (tVar 4) (tOp (rIxL K) (tVar 0) (tVar 2))))
      rfl scWithout.nd (pi_zip (by rfl) mZ (pa_cons (pv 0) (pa_cons (pv 1) pa_nil))) (blkOk_by (own := [("own", 3), ("taken", 4)]) (N := nWithout) (sc := defScope sWithout) (by decide +kernel))
      (fun _ _ _ _ _ => pg_tup rfl (pgs_cons (pg_name (i := 3) scWithout.nd rfl (Or.inl rfl)) (pgs_cons (pg_name (i := 4) scWithout.nd rfl (Or.inl rfl)) pgs_nil)))
      (fun _ _ _ _ _ => pts_nil)
      (fun _ _ _ _ _ => pe_op op_sub (pe_op op_mulW (pv 3) (pe_ix ix_list (pv 1) (pv 2) (fun _ _ => rfl))) (pe_op op_mulW (pv 4) (pe_ix ix_list (pv 0) (pv 2) (fun _ _ => rfl)))))), ?_⟩
    have hlz : (iv (By.withoutM row chosen (chosen.getD p 0) (row.getD p 0))).length = row.length := by rw [List.length_map, By.len_without hl]
    refine ⟨_, rfl, _, rfl, a, b, _, _, rfl, ha, hb, fun D nD => lc_it (walk_zip (n := row.length) (by simp [hl]))
      (fun i H' => Same H H' ∧ H' D = some (.lst ((iv (By.withoutM row chosen (chosen.getD p 0) (row.getD p 0))).take i))) ⟨same_new nD, upd_same⟩ (fun i H' _ q => ⟨q.1.seq ha, q.1.seq hb⟩) ?_ ?_⟩
    · rintro i x H' H'' hi ⟨s1, hD⟩ ⟨T, y, y', rfl, nT, rfl, e1, e2⟩
      have hi2 : i < chosen.length := by omega
      obtain rfl := iv_of e1 hi
      obtain rfl := iv_of e2 hi2
      have s2 : Same H' (upd H' T (.tup [V.int (row.getD i 0), V.int (chosen.getD i 0)])) := same_new nT
      have sA := (s1.trans s2).seq ha
      have sB := (s1.trans s2).seq hb
      have hp2 : p < chosen.length := by omega
      refine ⟨T, _, rfl, SqT.of upd_same, rfl, _, _, rfl, _, _, rfl, rfl, rfl, ?_⟩
      refine ⟨_, rfl, _, rfl, _, rfl, b, _, p, .int (chosen.getD p 0), rfl, rfl, sB, iv_at hp2, _, _, rfl, rfl, mulW (fr _ (getD_in hi)) (fc _ (getD_in hp2)), _, rfl, _, rfl, _, rfl, a, _, p, .int (row.getD p 0), rfl, rfl, sA, iv_at hp, _, _, rfl, rfl, mulW (fc _ (getD_in hi2)) (fr _ (getD_in hp)), _, _, rfl, rfl, ?_⟩
      refine lc_more nD s1 hD s2 ?_ (by rw [hlz]; omega)
      rw [iv_get (by rw [By.len_without hl]; exact hi), By.get_without hl hi]
    · intro H' ⟨s1, hD⟩
      refine k H' D s1 nD ?_
      rw [← hlz, List.take_length] at hD
      exact hD
end
end ByH

set_option maxRecDepth 100000
set_option maxHeartbeats 2000000
namespace ByH
open PySem PySem.Spec PyProof.Rows L2 ByR
abbrev sLow : Stmt := top 26
abbrev nLow : List Str := ["top", "bottom", "common", "rest", "left"]
theorem scLow : FnScope nLow ["top", "bottom"] (defScope sLow) := ⟨rfl, rfl, rfl, by decide +kernel, rfl, by decide +kernel, by decide +kernel⟩
def spLow : Sp := fun vs H Q _ => ∃ (t b : Nat), vs = [.int t, .int b] ∧ 0 < b ∧ b < 2 ^ 7000 ∧
  ∀ (H' : Hp) (d : Addr), Same H H' → H d = none → H' d = some (.lst (iv [(t : Int) / (Int.gcd t b : Int), (b : Int) / (Int.gcd t b : Int)])) → Q (.ref d) H'
def muLow : L2.St → Hp → Nat := fun σ _ => match σ with
  | [_, _, _, some (.int r), _] => r.toNat
  | _ => 0
section
variable {P : Program} {w : World} {K : PySem.W.Frag} {mg : Str → Option Value} {base : Heap}
theorem ok_low {f : Addr} {fd : FuncData} (F : Fun K "lowest_terms" "lowest_terms" sLow f fd) : FnOk P w K mg base CX0 1 f fd ["top", "bottom"] spLow := by
  refine F.ok scLow (fun vs H Q E h => ?_) (fun cdv A outer s H vs Q E hr h => ?_)
  · obtain ⟨t, b, rfl, _⟩ := h
    rfl
  · obtain ⟨t, b, rfl, hb, hz, k⟩ := h
    refine ⟨_, pss_cons (ps_set (i := 2) scLow.nd rfl (Or.inl rfl) (pv 0)) (pss_cons (ps_set (i := 3) scLow.nd rfl (Or.inl rfl) (pv 1))
      (pss_cons (ps_while PassesOwn.never (pt_cmpR op_gt (pv 3) pe_int (nomark _))
        (pss_cons (ps_set (i := 4) scLow.nd rfl (Or.inl rfl) (pe_op op_mod (pv 2) (pv 3))) (pss_cons (ps_set (i := 2) scLow.nd rfl (Or.inl rfl) (pv 3)) (pss_one (ps_set (i := 3) scLow.nd rfl (Or.inl rfl) (pv 4))))))
      (pss_one (ps_ret (pe_lst (pa_cons (pe_op op_fdivW (pv 0) (pv 2)) (pa_cons (pe_op op_fdivW (pv 1) (pv 2)) pa_nil))))))), ?_⟩
    refine ⟨_, rfl, _, rfl, while_by (fun σ H' => H' = H ∧ ∃ (c r : Nat) (v : Option V), σ = [some (.int t), some (.int b), some (.int c), some (.int r), v] ∧ Nat.gcd c r = Nat.gcd t b) muLow ⟨rfl, t, b, none, rfl, rfl⟩ ?_ ?_⟩
    · rintro σ H' ⟨rfl, c, r, v, rfl, hg⟩
      refine ⟨_, rfl, _, _, rfl, rfl, _, rfl, ?_⟩
      refine ite2 (fun hc => ?_) (fun hc => ?_)
      · have hr0 : (0 : Int) < r := of_decide_eq_true hc
        refine ⟨_, rfl, _, rfl, _, _, rfl, rfl, hr0, _, rfl, _, rfl, ⟨rfl, r, c % r, some (.int ((c : Int) % (r : Int))), ?_, ?_⟩, ?_⟩
        · show _ = [some (V.int t), some (V.int b), some (V.int r), some (V.int ((c % r : Nat) : Int)), some (V.int ((c : Int) % (r : Int)))]
          rfl
        · rw [← hg, Nat.gcd_comm r, ← Nat.gcd_rec, Nat.gcd_comm]
        · show ((c : Int) % (r : Int)).toNat < (r : Int).toNat
          have := Int.emod_lt_of_pos (c : Int) hr0
          have := Int.emod_nonneg (c : Int) (show (r : Int) ≠ 0 by omega)
          omega
      · have hr0 : ¬ (0 : Int) < r := fun x => hc (decide_eq_true x)
        have r0 : r = 0 := by omega
        subst r0
        rw [Nat.gcd_zero_right] at hg
        have gp : 0 < Nat.gcd t b := Nat.gcd_pos_of_pos_right _ hb
        have gl : Nat.gcd t b ≤ b := Nat.le_of_dvd hb (Nat.gcd_dvd_right _ _)
        have cd : ∀ z : Int, CDivW z (c : Int) := fun z => wide_div (b := 7000) (by omega) (by
          show (c : Int).natAbs < 2 ^ 7000
          rw [Int.natAbs_natCast]; omega) (by decide) (by decide)
        refine ⟨_, rfl, _, rfl, _, _, rfl, rfl, cd _, _, rfl, _, rfl, _, _, rfl, rfl, cd _, (by show 2 ≤ sizeLine; decide), fun p hp => ?_⟩
        refine k _ p (same_new hp) hp ?_
        rw [upd_same]
        have e : (Int.gcd (t : Int) (b : Int) : Int) = (c : Int) := by
          unfold Int.gcd
          rw [Int.natAbs_natCast, Int.natAbs_natCast, hg]
        rw [e]
        rfl
    · rintro σ H' Q' Q'' hQ ⟨v, hv, i, j, e1, e2, kk, e3, q⟩
      exact ⟨v, hv, i, j, e1, e2, kk, e3, hQ _ _ q⟩
end
end ByH

set_option maxRecDepth 100000
set_option maxHeartbeats 2000000
namespace ByH
open PySem PySem.Spec PyProof.Rows L2 ByR
abbrev sSolved : Stmt := top 24
abbrev nSolved : List Str := ["rows", "place", "chosen", "other", "row"]
theorem scSolved : FnScope nSolved ["rows"] (defScope sSolved) := ⟨rfl, rfl, rfl, by decide +kernel, rfl, by decide +kernel, by decide +kernel⟩
/-- rows as they must be at each place -/
def RowsFit (M : Nat) (rows : List (List Int)) : Prop := ∀ r ∈ rows, r.length = M ∧ ∀ x ∈ r, x.natAbs < 2 ^ 9000
def spSolved : Sp := fun vs H Q _ => ∃ (a : Addr) (ps : List Addr) (rows : List (List Int)) (M : Nat), vs = [.ref a] ∧ H a = some (.lst (ps.map V.ref)) ∧ RowsAt H ps rows ∧ rows.length ≤ M ∧ M ≤ 100 ∧
  (∀ c, c ≤ rows.length → RowsFit M ((List.range c).foldl By.elimM rows)) ∧
  ∀ (H' : Hp) (d : Addr) (qs : List Addr), Same H H' → H' d = some (.lst (qs.map V.ref)) → RowsAt H' qs (By.solvedM rows) → Q (.ref d) H'
theorem elim_len (rows : List (List Int)) (c : Nat) : ((List.range c).foldl By.elimM rows).length = rows.length := by
  induction c with
  | zero => rfl
  | succ c ih => rw [List.range_succ, List.foldl_append]; show (By.elimM _ c).length = _; unfold By.elimM; rw [List.length_mapIdx]; exact ih
theorem elim_succ (rows : List (List Int)) (c : Nat) : (List.range (c + 1)).foldl By.elimM rows = By.elimM ((List.range c).foldl By.elimM rows) c := by
  rw [List.range_succ, List.foldl_append]; rfl
section
variable {P : Program} {w : World} {K : PySem.W.Frag} {mg : Str → Option Value} {base : Heap}
theorem ok_solved {f fW : Addr} {fd fdW : FuncData} (F : Fun K "solved" "solved" sSolved f fd) (FW : Fun K "without" "without" sWithout fW fdW) (bW : Binds K fdW ["row", "chosen", "place"] []) (gW : mg "without" = some (.ref fW)) (kW : PySem.W.keepIn K (.ref fW) = true)
    (mZ : mg "zip" = none) (mE : mg "enumerate" = none) (mR : mg "range" = none) (mL : mg "len" = none) : FnOk P w K mg base CX0 2 f fd ["rows"] spSolved := by
  have GW : FnOk P w K mg base CX0 1 fW fdW ["row", "chosen", "place"] (spWithout K) := ok_without FW mZ
  refine F.ok scSolved (fun vs H Q E h => ?_) (fun cdv A outer s H vs Q E hr h => ?_)
  · obtain ⟨a, ps, rows, M, rfl, _⟩ := h
    rfl
  · obtain ⟨a, ps, rows, M, rfl, ha, hR, hM, hM2, fit, k⟩ := h
    refine ⟨_, pss_cons (ps_for PassesOwn.never rfl (pi_range1 rfl mR (pa_cons (pe_callB call_len_seq (by rfl) mL PySem.boot_len (pa_cons (pv 0) pa_nil)) pa_nil)) (pg_name (i := 1) scSolved.nd rfl (Or.inr rfl))
        (pss_cons (ps_set (i := 2) scSolved.nd rfl (Or.inr rfl) (pe_ix ix_list (pv 0) (pv 1) (fun _ _ => rfl)))
        (pss_one (ps_setLc (i := 0) (own := [("other", 3), ("row", 4)]) (tt := tYes) (g := gTup K 2 (gCons (gName 3) (gCons (gName 4) gNil)))
          (te := tIf (tTest (tOp rEq (tVar 3) (tVar 1))) (tVar 4) (tCall (spWithout K) [] E0 (tCons (tVar 4) (tCons (tVar 2) (tCons (tVar 1) tNil)))))
          rfl scSolved.nd rfl rfl (sw_true rfl rfl rfl (by decide +kernel)) (pi_enum (by rfl) mE (pa_cons (pv 0) pa_nil)) (blkOk_by (own := [("other", 3), ("row", 4)]) (N := nSolved) (sc := defScope sSolved) (by decide +kernel))
          (fun _ _ _ _ _ => pg_tup rfl (pgs_cons (pg_name (i := 3) scSolved.nd rfl (Or.inl rfl)) (pgs_cons (pg_name (i := 4) scSolved.nd rfl (Or.inl rfl)) pgs_nil)))
          (fun _ _ _ _ _ => pts_nil)
          (fun _ _ _ _ _ => pe_ifExp (pt_cmpR op_eq (pv 3) (pv 1) (nomark _)) (pv 4) (pe_call GW hr rfl gW kW bW .nil pass0 (pa_cons (pv 4) (pa_cons (pv 2) (pa_cons (pv 1) pa_nil)))))))))
      (pss_one (ps_ret (pv 0))), ?_⟩
    have hlp : ps.length = rows.length := paired_len hR
    have hlen : ((ps.map V.ref).length : Int) = (rows.length : Int) := by rw [List.length_map, hlp]
    refine ⟨_, rfl, a, _, rfl, .inl (SqL.of ha), (rows.length : Int), by rw [hlen], by omega, by omega, for_range (n := (rows.length : Int).toNat)
      (fun i σ H' => Same H H' ∧ ∃ (b : Addr) (qs : List Addr) (v1 v2 : Option V), σ = [some (.ref b), v1, v2, none, none] ∧ H' b = some (.lst (qs.map V.ref)) ∧ RowsAt H' qs ((List.range i).foldl By.elimM rows))
      ⟨Same.refl H, a, ps, none, none, rfl, ha, hR⟩ ?_ ?_⟩
    · rintro i σ H' hi ⟨s1, b, qs, v1, v2, rfl, hb, hq⟩
      have hi' : i < rows.length := by omega
      have eN := elim_len rows i
      have fi := fit i (by omega)
      have hi2 : i < ((List.range i).foldl By.elimM rows).length := by omega
      generalize hcur : (List.range i).foldl By.elimM rows = cur at *
      have ec : cur[i]? = some cur[i] := List.getElem?_eq_getElem hi2
      obtain ⟨pc, epc, hpc⟩ := paired_at hq ec
      have ecd : cur.getD i [] = cur[i] := by rw [List.getD_eq_getElem?_getD, ec]; rfl
      have lq := paired_len hq
      have hel : (By.elimM cur i).length = cur.length := by unfold By.elimM; rw [List.length_mapIdx]
      have z0 : (0 : Int) + (i : Int) = (i : Int) := by omega
      -- chosen = rows[place]
      refine ⟨_, rfl, _, rfl, b, _, _, .ref pc, rfl, rfl, SqL.of hb, (by rw [z0]; exact atI_nat (ref_of epc)), ?_⟩
      -- rows = [..]
      refine ⟨_, rfl, b, _, rfl, SqL.of hb, fun D nD => lc_it (walk_enum (K := K) (a := b) (xs := qs.map V.ref))
        (fun j H2 => Same H' H2 ∧ ∃ ds : List Addr, H2 D = some (.lst (ds.map V.ref)) ∧ RowsBy D H2 ds ((By.elimM cur i).take j)) ⟨same_new nD, [], upd_same, .nil⟩ (fun j H2 _ q => SqL.of (q.1 _ _ hb)) ?_ ?_⟩
      · rintro j x H2 H3 hj ⟨s2, ds, hD, hd⟩ ⟨T, y, y', rfl, nT, rfl, e1, e2⟩
        rw [List.length_map] at hj
        have hjc : j < cur.length := by omega
        cases e1
        have ecj : cur[j]? = some cur[j] := List.getElem?_eq_getElem hjc
        obtain ⟨pj, epj, hpj⟩ := paired_at hq ecj
        have e2' : (qs.map V.ref)[j]? = some y' := e2
        rw [ref_of epj] at e2'
        cases e2'
        have s3 : Same H2 (upd H2 T (.tup [V.int (j : Nat), V.ref pj])) := same_new nT
        have nTD : D ≠ T := ne_of_none hD nT
        have nxt : (By.elimM cur i)[j]? = some (if j = i then cur[j] else By.withoutM cur[j] cur[i] (cur[i].getD i 0) (cur[j].getD i 0)) := by
          unfold By.elimM
          rw [List.getElem?_mapIdx, ecj]
          simp only [Option.map_some, ecd]
        refine ⟨T, _, rfl, SqT.of upd_same, rfl, _, _, rfl, _, _, rfl, rfl, rfl, ?_⟩
        refine ⟨_, rfl, _, rfl, rfl, _, rfl, ?_⟩
        refine ite2 (fun hc => ?_) (fun hc => ?_)
        · have hji : j = i := by
            have := of_decide_eq_true hc
            rw [z0] at this
            have h2 := V.int.inj this
            omega
          refine ⟨_, rfl, lcr_more nD s2 hD hd s3 nxt (ne_of_none hpj nD) ?_ (by rw [hel]; omega)⟩
          rw [if_pos hji]; exact s3 _ _ (s2 _ _ hpj)
        · have hji : ¬ j = i := fun e => hc (decide_eq_true (by rw [z0, e]))
          have fj := fi cur[j] (List.getElem_mem hjc)
          have fc := fi cur[i] (List.getElem_mem hi2)
          refine ⟨_, rfl, _, rfl, _, rfl, pj, pc, cur[j], cur[i], i, by rw [z0]; rfl, SqL.of (s3 _ _ (s2 _ _ hpj)), SqL.of (s3 _ _ (s2 _ _ hpc)), by rw [fj.1, fc.1], by rw [fj.1]; exact hM2, by rw [fj.1]; omega, fj.2, fc.2, fun H4 d s4 nd hd4 => ?_⟩
          refine lcr_more nD s2 hD hd (s3.trans s4) nxt (fun e => ?_) ?_ (by rw [hel]; omega)
          · have := s3 _ _ hD
            rw [← e] at this
            rw [nd] at this
            cases this
          · rw [if_neg hji]; exact hd4
      · rintro H2 ⟨s2, ds, hD, hd⟩
        rw [List.length_map, lq, ← hel, List.take_length] at hd
        refine ⟨s1.trans s2, D, ds, _, _, rfl, hD, ?_⟩
        rw [elim_succ, hcur]
        exact Paired.mapP hd fun _ _ q => q.2
    · rintro σ H' ⟨s1, b, qs, v1, v2, rfl, hb, hq⟩
      refine ⟨_, rfl, k H' b qs s1 hb ?_⟩
      unfold By.solvedM
      exact hq
end
end ByH

set_option maxRecDepth 100000
set_option maxHeartbeats 2000000
/-! ByO: the program's objects. -/
namespace ByH
open PySem PySem.Spec PyProof.Rows L2 ByR
/-- where the classes stand -/
structure Adr where
  a : Addr
  v : Addr
  s : Addr
  h : Addr
  t : Addr
abbrev nv (l : List Nat) : List V := l.map fun (n : Nat) => V.int (n : Int)
def wK (o : By.Outs) : List (Key × V) := o.map fun x => (Sum.inl (x.1 : Int), V.int (x.2 : Int))
def actF (n : Int) (a : Pn08.Act) (d : Addr) : List (Str × V) := [("number", .int n), ("state", .int (a.at_ : Int)), ("price", .int (a.cost : Int)), ("weights", .ref d), ("whole", .int (a.whole : Int))]
/-- an act at an address -/
def ActAt (C : Adr) (H : Hp) (p : Addr) (a : Pn08.Act) : Prop := ∃ n dx d, H p = some (.ins C.a dx (actF n a d)) ∧ H d = some (.dK (wK a.outs))
theorem ActAt.same {C : Adr} {H H' : Hp} {p : Addr} {a : Pn08.Act} (h : ActAt C H p a) (s : Same H H') : ActAt C H' p a := let ⟨n, dx, d, h1, h2⟩ := h; ⟨n, dx, d, s _ _ h1, s _ _ h2⟩
/-- an act's own number -/
def NoAt (C : Adr) (H : Hp) (p : Addr) (n : Nat) : Prop := ∃ dx a d, H p = some (.ins C.a dx (actF (n : Int) a d))
theorem NoAt.same {C : Adr} {H H' : Hp} {p : Addr} {n : Nat} (h : NoAt C H p n) (s : Same H H') : NoAt C H' p n := let ⟨dx, a, d, h1⟩ := h; ⟨dx, a, d, s _ _ h1⟩
def valF (t : Addr) (b : Int) : List (Str × V) := [("tops", .ref t), ("bottom", .int b)]
def ValAt (C : Adr) (H : Hp) (p : Addr) (tops : List Int) (bottom : Int) : Prop := ∃ dx t, H p = some (.ins C.v dx (valF t bottom)) ∧ H t = some (.lst (iv tops))
theorem ValAt.same {C : Adr} {H H' : Hp} {p : Addr} {tops : List Int} {b : Int} (h : ValAt C H p tops b) (s : Same H H') : ValAt C H' p tops b := let ⟨dx, d, h1, h2⟩ := h; ⟨dx, d, s _ _ h1, s _ _ h2⟩
def seaF (n : Nat) (wl al : Addr) (g r : Int) : List (Str × V) := [("many", .int (n : Int)), ("wanted", .ref wl), ("acts", .ref al), ("goal", .int g), ("rate", .int r)]
/-- acts, one behind another -/
def ActsAt (C : Adr) (H : Hp) (ps : List Addr) (as : List Pn08.Act) : Prop := Paired (ActAt C H) ps as
theorem ActsAt.same {C : Adr} {H H' : Hp} {ps : List Addr} {as : List Pn08.Act} (h : ActsAt C H ps as) (s : Same H H') : ActsAt C H' ps as := Paired.mapP h fun _ _ q => q.same s
/-- a search over some acts of a house, which stand at addr -/
structure SeaAt (C : Adr) (H : Hp) (p : Addr) (t : Pn08.Task) (wl al : Addr) (idx : List Nat) (addr : Nat → Addr) (g r : Int) : Prop where
  ins : ∃ dx, H p = some (.ins C.s dx (seaF t.states wl al g r))
  wanted : H wl = some (.lst (nv t.goal))
  list : H al = some (.lst (idx.map fun k => V.ref (addr k)))
  acts : ∀ k ∈ idx, ActAt C H (addr k) (t.act k)
theorem SeaAt.same {C : Adr} {H H' : Hp} {p wl al : Addr} {t : Pn08.Task} {idx : List Nat} {addr : Nat → Addr} {g r : Int} (h : SeaAt C H p t wl al idx addr g r) (s : Same H H') : SeaAt C H' p t wl al idx addr g r :=
  ⟨let ⟨dx, e⟩ := h.ins; ⟨dx, s _ _ e⟩, s _ _ h.wanted, s _ _ h.list, fun k hk => (h.acts k hk).same s⟩
def houF (n : Nat) (wl al : Addr) : List (Str × V) := [("many", .int (n : Int)), ("wanted", .ref wl), ("acts", .ref al)]
/-- the house: where its lists stand, where its acts stand -/
structure HouAt (C : Adr) (H : Hp) (p : Addr) (dx wl al : Addr) (ps : List Addr) (t : Pn08.Task) : Prop where
  ins : H p = some (.ins C.h dx (houF t.states wl al))
  wanted : H wl = some (.lst (nv t.goal))
  list : H al = some (.lst (ps.map V.ref))
  acts : ActsAt C H ps t.acts
  nums : ∀ i q, ps[i]? = some q → NoAt C H q i
def tapF (c : Addr) (i : Nat) : List (Str × V) := [("calls", .ref c), ("place", .int (i : Int))]
structure Txt (K : PySem.W.Frag) (mg : Str → Option Value) (C : Adr) : Prop where
  clA : Cls K C.a
  clV : Cls K C.v
  clS : Cls K C.s
  clH : Cls K C.h
  clT : Cls K C.t
  aNumber : NoAttr K C.a "number"
  aState : NoAttr K C.a "state"
  aPrice : NoAttr K C.a "price"
  aWeights : NoAttr K C.a "weights"
  aWhole : NoAttr K C.a "whole"
  vTops : NoAttr K C.v "tops"
  vBottom : NoAttr K C.v "bottom"
  sMany : NoAttr K C.s "many"
  sWanted : NoAttr K C.s "wanted"
  sActs : NoAttr K C.s "acts"
  sGoal : NoAttr K C.s "goal"
  sRate : NoAttr K C.s "rate"
  hMany : NoAttr K C.h "many"
  hWanted : NoAttr K C.h "wanted"
  hActs : NoAttr K C.h "acts"
  tCalls : NoAttr K C.t "calls"
  tPlace : NoAttr K C.t "place"
  gA : mg "Act" = some (.ref C.a)
  gV : mg "Values" = some (.ref C.v)
  gS : mg "Search" = some (.ref C.s)
  gH : mg "House" = some (.ref C.h)
  gT : mg "Tape" = some (.ref C.t)
  len : mg "len" = none
  range : mg "range" = none
  enum : mg "enumerate" = none
  zip : mg "zip" = none
  sum : mg "sum" = none
  any : mg "any" = none
  all : mg "all" = none
  sorted : mg "sorted" = none
  list : mg "list" = none
  dict : mg "dict" = none
  cStates : ∃ t, mg "MOST_STATES" = some (.int 6 t)
  cActs : ∃ t, mg "MOST_ACTS" = some (.int 12 t)
  cCost : ∃ t, mg "MOST_COST" = some (.int 100 t)
  cWeight : ∃ t, mg "MOST_WEIGHT" = some (.int 20 t)
  cWrong : ∃ t, mg "WRONG" = some (.int (-1) t)
  cNoState : ∃ t, mg "NO_STATE" = some (.int (-2) t)
  cNotSure : ∃ t, mg "NOT_SURE" = some (.int (-6) t)
  cFull : ∃ t, mg "FULL" = some (.int (-7) t)
  cBegins : ∃ t, mg "BEGINS" = some (.int 0 t)
  cAct : ∃ t, mg "ACT" = some (.int 1 t)
  cChance : ∃ t, mg "CHANCE" = some (.int 2 t)
  cCostC : ∃ t, mg "COST" = some (.int 3 t)
  cLikely : ∃ t, mg "LIKELY" = some (.int 4 t)
  cCheap : ∃ t, mg "CHEAP" = some (.int 5 t)
  cJudge : ∃ t, mg "JUDGE" = some (.int 6 t)
/-! ### fields -/
theorem aF_number (n : Int) (a : Pn08.Act) (d : Addr) : (actF n a d).lookup ("number" : Str) = some (.int n) := by rfl
theorem aF_state (n : Int) (a : Pn08.Act) (d : Addr) : (actF n a d).lookup ("state" : Str) = some (.int (a.at_ : Int)) := by rfl
theorem aF_price (n : Int) (a : Pn08.Act) (d : Addr) : (actF n a d).lookup ("price" : Str) = some (.int (a.cost : Int)) := by rfl
theorem aF_weights (n : Int) (a : Pn08.Act) (d : Addr) : (actF n a d).lookup ("weights" : Str) = some (.ref d) := by rfl
theorem aF_whole (n : Int) (a : Pn08.Act) (d : Addr) : (actF n a d).lookup ("whole" : Str) = some (.int (a.whole : Int)) := by rfl
theorem aF_may (n : Int) (a : Pn08.Act) (d : Addr) : (actF n a d).lookup ("may_lead_to" : Str) = none := by rfl
theorem aF_only (n : Int) (a : Pn08.Act) (d : Addr) : (actF n a d).lookup ("leads_only_to" : Str) = none := by rfl
theorem vF_tops (t : Addr) (b : Int) : (valF t b).lookup ("tops" : Str) = some (.ref t) := by rfl
theorem vF_bottom (t : Addr) (b : Int) : (valF t b).lookup ("bottom" : Str) = some (.int b) := by rfl
section
variable (n : Nat) (wl al : Addr) (g r : Int)
theorem sF_many : (seaF n wl al g r).lookup ("many" : Str) = some (.int (n : Int)) := by rfl
theorem sF_wanted : (seaF n wl al g r).lookup ("wanted" : Str) = some (.ref wl) := by rfl
theorem sF_acts : (seaF n wl al g r).lookup ("acts" : Str) = some (.ref al) := by rfl
theorem sF_goal : (seaF n wl al g r).lookup ("goal" : Str) = some (.int g) := by rfl
theorem sF_rate : (seaF n wl al g r).lookup ("rate" : Str) = some (.int r) := by rfl
theorem sF_best : (seaF n wl al g r).lookup ("best_values" : Str) = none := by rfl
theorem sF_first : (seaF n wl al g r).lookup ("first_rule" : Str) = none := by rfl
theorem sF_towards : (seaF n wl al g r).lookup ("acts_towards" : Str) = none := by rfl
theorem sF_values : (seaF n wl al g r).lookup ("values_of" : Str) = none := by rfl
theorem sF_equation : (seaF n wl al g r).lookup ("equation" : Str) = none := by rfl
theorem sF_better : (seaF n wl al g r).lookup ("better_acts" : Str) = none := by rfl
theorem sF_bestActs : (seaF n wl al g r).lookup ("best_acts" : Str) = none := by rfl
theorem sF_worth : (seaF n wl al g r).lookup ("worth" : Str) = none := by rfl
theorem hF_many : (houF n wl al).lookup ("many" : Str) = some (.int (n : Int)) := by rfl
theorem hF_wanted : (houF n wl al).lookup ("wanted" : Str) = some (.ref wl) := by rfl
theorem hF_acts : (houF n wl al).lookup ("acts" : Str) = some (.ref al) := by rfl
end
theorem tF_calls (c : Addr) (i : Nat) : (tapF c i).lookup ("calls" : Str) = some (.ref c) := by rfl
theorem tF_place (c : Addr) (i : Nat) : (tapF c i).lookup ("place" : Str) = some (.int (i : Int)) := by rfl
theorem tF_put (c : Addr) (i j : Nat) : putF "place" (.int (j : Int)) (tapF c i) = tapF c j := by rfl
/-! ### lists of states -/
theorem nv_flat : ∀ (l : List Nat), (nv l).all flatV = true
  | [] => rfl
  | _ :: l => nv_flat l
theorem inV_nv (n : Nat) : ∀ (l : List Nat), inV (.int (n : Int)) (nv l) = l.contains n
  | [] => rfl
  | a :: l => by
    have ih := inV_nv n l
    unfold inV at ih ⊢
    rw [show nv (a :: l) = V.int (a : Int) :: nv l from rfl, List.any_cons, ih, List.contains_cons]
    congr 1
    show ((a : Int) == (n : Int)) = (n == a)
    by_cases c : a = n
    · subst c; simp
    · have c1 : ¬ ((a : Int) = (n : Int)) := by omega
      have c2 : ¬ n = a := fun e => c e.symm
      rw [beq_eq_false_iff_ne.mpr c1, beq_eq_false_iff_ne.mpr c2]
theorem lock_same {H H' : Hp} {d : Addr} {u od} (hd : H d = some u) (s : Same (upd H d (.frz od u)) H') : Same H (upd H' d u) := fun b o e => by
  by_cases c : b = d
  · subst c; rw [upd_same, ← hd]; exact e
  · rw [upd_ne c]; exact s b o (by rw [upd_ne c]; exact e)
theorem lock_sub {H : Hp} {d : Addr} {u od} {b : Addr} {o : HO} (e : H b = some o) (ne : b ≠ d) : (upd H d (.frz od u)) b = some o := by rw [upd_ne ne]; exact e
theorem wK_at {o : By.Outs} {i : Nat} {x : Nat × Nat} (h : o[i]? = some x) : (wK o)[i]? = some (Sum.inl (x.1 : Int), V.int (x.2 : Int)) := by
  unfold wK; rw [List.getElem?_map, h]; rfl
theorem wK_len (o : By.Outs) : (wK o).length = o.length := by unfold wK; simp
/-! ### rules -/
def rK (addr : Nat → Addr) (r : By.RL) : List (Key × V) := r.map fun x => (Sum.inl (x.1 : Int), V.ref (addr x.2))
theorem key_inj {a b : Nat} : ((Sum.inl (a : Int) : Key) = Sum.inl (b : Int)) ↔ a = b := by
  constructor
  · intro h; have := Sum.inl.inj h; omega
  · intro h; rw [h]
theorem rK_any (addr : Nat → Addr) (r : By.RL) (s : Nat) : ((rK addr r).any fun kv => decide (kv.1 = (Sum.inl (s : Int) : Key))) = By.inR r s := by
  unfold rK By.inR
  rw [List.any_map]
  congr 1
  funext x
  exact decide_eq_decide.mpr key_inj
theorem rK_look (addr : Nat → Addr) (r : By.RL) (s : Nat) : valV (rK addr r) (Sum.inl (s : Int) : Key) = (By.lookR r s).map fun k => V.ref (addr k) := by
  unfold valV rK By.lookR
  rw [List.find?_map]
  have : ((fun kv : Key × V => decide (kv.1 = (Sum.inl (s : Int) : Key))) ∘ fun x : Nat × Nat => ((Sum.inl (x.1 : Int) : Key), V.ref (addr x.2))) = fun x : Nat × Nat => decide (x.1 = s) := by
    funext x; exact decide_eq_decide.mpr key_inj
  rw [this]
  cases r.find? fun x => decide (x.1 = s) <;> rfl
theorem rK_some (addr : Nat → Addr) (r : By.RL) (s : Nat) : (valV (rK addr r) (Sum.inl (s : Int) : Key)).isSome = By.inR r s := by
  rw [← rK_any addr, valV_any]
theorem rK_put (addr : Nat → Addr) (r : By.RL) (s k : Nat) : putK (rK addr r) (Sum.inl (s : Int)) (V.ref (addr k)) = rK addr (By.putR r s k) := by
  unfold putK By.putR
  rw [rK_any]
  by_cases c : By.inR r s = true
  · rw [if_pos c, if_pos c]
    unfold rK
    rw [List.map_map, List.map_map]
    refine List.map_congr_left fun x _ => ?_
    by_cases e : x.1 = s
    · simp [e]
    · have e' : ¬ ((Sum.inl (x.1 : Int) : Key) = Sum.inl (s : Int)) := fun q => e (key_inj.mp q)
      simp only [Function.comp, if_neg e, if_neg e']
  · rw [if_neg c, if_neg c]
    unfold rK
    simp
theorem rK_merge (addr : Nat → Addr) (b : By.RL) : ∀ r : By.RL, mergeK (rK addr r) (rK addr b) = rK addr (By.mergeR r b) := by
  induction b with
  | nil => intro r; rfl
  | cons x b ih =>
    intro r
    show mergeK (putK (rK addr r) (Sum.inl (x.1 : Int)) (V.ref (addr x.2))) (rK addr b) = rK addr (By.mergeR (By.putR r x.1 x.2) b)
    rw [rK_put, ih]
theorem rK_len (addr : Nat → Addr) (r : By.RL) : (rK addr r).length = r.length := by unfold rK; simp
theorem rK_keys (addr : Nat → Addr) (r : By.RL) : ((rK addr r).map fun kv => kV kv.1) = nv (By.keysR r) := by
  unfold rK By.keysR
  rw [List.map_map]
  show _ = (r.map (·.1)).map _
  rw [List.map_map]; rfl
end ByH

set_option maxRecDepth 100000
set_option maxHeartbeats 2000000
/-! ByAc: Act, Values, Tape. -/
namespace ByH
open PySem PySem.Spec PyProof.Rows L2 ByR
abbrev sActInit : Stmt := inClass (top 17) 0
abbrev sMay : Stmt := inClass (top 17) 1
abbrev sOnly : Stmt := inClass (top 17) 2
abbrev sValInit : Stmt := inClass (top 18) 0
abbrev sTapInit : Stmt := inClass (top 21) 0
abbrev sMore : Stmt := inClass (top 21) 1
abbrev sNumber : Stmt := inClass (top 21) 2
abbrev sRow : Stmt := inClass (top 21) 3
section
variable {P : Program} {w : World} {K : PySem.W.Frag} {mg : Str → Option Value} {base : Heap} {C : Adr}
/-! ### Act.__init__ -/
theorem scActInit : FnScope ["self", "number", "state", "price", "weights"] ["self", "number", "state", "price", "weights"] (defScope sActInit) := ⟨rfl, rfl, rfl, by decide +kernel, rfl, by decide +kernel, by decide +kernel⟩
def spActInit (C : Adr) : Sp := fun vs H Q _ => ∃ (p dx d : Addr) (n : Nat) (a : Pn08.Act), vs = [.ref p, .int (n : Int), .int (a.at_ : Int), .int (a.cost : Int), .ref d] ∧ H p = some (.ins C.a dx []) ∧ H d = some (.dK (wK a.outs)) ∧
  ∀ H' : Hp, ActAt C H' p a → NoAt C H' p n → (∀ b o, H b = some o → b ≠ p → H' b = some o) → Q .non H'
theorem sum_whole (a : Pn08.Act) : (a.outs.map fun x => (x.2 : Int)).sum = (a.whole : Int) := by
  have : ∀ (o : By.Outs) (n : Nat), ((o.foldl (fun n x => n + x.2) n : Nat) : Int) = n + (o.map fun x => (x.2 : Int)).sum := by
    intro o
    induction o with
    | nil => intro n; simp
    | cons x o ih => intro n; rw [List.foldl_cons, ih]; simp only [List.map_cons, List.sum_cons]; omega
  have := this a.outs 0
  unfold Pn08.Act.whole
  omega
theorem ok_actInit {f : Addr} {fd : FuncData} (F : Fun K "__init__" "Act.__init__" sActInit f fd) (T : Txt K mg C) : FnOk P w K mg base CX0 1 f fd ["self", "number", "state", "price", "weights"] (spActInit C) := by
  refine F.ok scActInit (fun vs H Q E h => ?_) (fun cdv A outer s H vs Q E hr h => ?_)
  · obtain ⟨p, dx, d, n, a, rfl, _⟩ := h
    rfl
  · obtain ⟨p, dx, d, n, a, rfl, hp, hd, k⟩ := h
    refine ⟨_, pss_cons (ps_fld (pv 0) (pv 1) rfl) (pss_cons (ps_fld (pv 0) (pv 2) rfl) (pss_cons (ps_fld (pv 0) (pv 3) rfl) (pss_cons (ps_fld (pv 0) (pv 4) rfl) (pss_one (ps_fld (pv 0) (pe_sumVals rfl (by rfl) T.sum (pv 4)) rfl))))), ?_⟩
    have ndp : d ≠ p := ne_of hd hp (by intro z; cases z)
    refine ⟨_, rfl, _, rfl, p, C.a, dx, [], rfl, hp, T.clA, T.aNumber, (by show 0 < 1000; decide), ?_⟩
    refine ⟨_, rfl, _, rfl, p, C.a, dx, _, rfl, upd_same, T.clA, T.aState, (by show 1 < 1000; decide), ?_⟩
    refine ⟨_, rfl, _, rfl, p, C.a, dx, _, rfl, upd_same, T.clA, T.aPrice, (by show 2 < 1000; decide), ?_⟩
    refine ⟨_, rfl, _, rfl, p, C.a, dx, _, rfl, upd_same, T.clA, T.aWeights, (by show 3 < 1000; decide), ?_⟩
    have hd3 : ∀ o1 o2 o3 o4, (upd (upd (upd (upd H p o1) p o2) p o3) p o4) d = some (.dK (wK a.outs)) := fun _ _ _ _ => by rw [upd_ne ndp, upd_ne ndp, upd_ne ndp, upd_ne ndp]; exact hd
    refine ⟨_, rfl, d, wK a.outs, a.outs.map fun x => (x.2 : Int), rfl, hd3 _ _ _ _, by unfold wK; simp [List.map_map, Function.comp_def], _, rfl, p, C.a, dx, _, rfl, upd_same, T.clA, T.aWhole, (by show 4 < 1000; decide), ?_⟩
    refine k _ ⟨n, dx, d, ?_, ?_⟩ ⟨dx, a, d, ?_⟩ fun b o e hb => ?_
    · rw [upd_same, sum_whole]; rfl
    · rw [upd_ne ndp]; exact hd3 _ _ _ _
    · rw [upd_same, sum_whole]; rfl
    · rw [upd_ne hb, upd_ne hb, upd_ne hb, upd_ne hb, upd_ne hb]; exact e
/-! ### may_lead_to, leads_only_to -/
abbrev nMay : List Str := ["self", "states", "state"]
theorem scMay : FnScope nMay ["self", "states"] (defScope sMay) := ⟨rfl, rfl, rfl, by decide +kernel, rfl, by decide +kernel, by decide +kernel⟩
theorem scOnly : FnScope nMay ["self", "states"] (defScope sOnly) := ⟨rfl, rfl, rfl, by decide +kernel, rfl, by decide +kernel, by decide +kernel⟩
def spMay (C : Adr) : Sp := fun vs H Q _ => ∃ (p l : Addr) (a : Pn08.Act) (near : List Nat), vs = [.ref p, .ref l] ∧ ActAt C H p a ∧ H l = some (.lst (nv near)) ∧ a.outs.length ≤ 1000 ∧
  ∀ H' : Hp, Same H H' → Q (.bl (a.outs.any fun x => near.contains x.1)) H'
def spOnly (C : Adr) : Sp := fun vs H Q _ => ∃ (p l : Addr) (a : Pn08.Act) (near : List Nat), vs = [.ref p, .ref l] ∧ ActAt C H p a ∧ H l = some (.lst (nv near)) ∧ a.outs.length ≤ 1000 ∧
  ∀ H' : Hp, Same H H' → Q (.bl (a.outs.all fun x => near.contains x.1)) H'
/-- the truth values that both make -/
theorem outs_bools {C : Adr} {K : PySem.W.Frag} (T1 : Cls K C.a) (T2 : NoAttr K C.a "weights") {H : Hp} {p l : Addr} {a : Pn08.Act} {near : List Nat} {Q : VK} (hA : ActAt C H p a) (hl : H l = some (.lst (nv near))) (hz : a.outs.length ≤ 1000)
    (k : ∀ (H' : Hp) (D : Addr), Same H H' → H' D = some (.lst ((a.outs.map fun x => near.contains x.1).map V.bl)) → Q (.ref D) H') :
    tLockE (tLc (iKeys (tFld K (tVar 0) "weights")) (gName 2) tYes (tOp (rIn K false) (tVar 2) (tVar 1)) [2]) [some (.ref p), some (.ref l), none] H Q := by
  obtain ⟨nn, dx, d, h1, h2⟩ := hA
  have npd : p ≠ d := ne_of h1 h2 (by intro z; cases z)
  have nld : l ≠ d := ne_of hl h2 (by intro z; cases z)
  refine ⟨d, _, h2, True.intro, fun od => ?_⟩
  refine ⟨_, rfl, p, C.a, dx, _, _, rfl, lock_sub h1 npd, T1, T2, aF_weights _ _ _, d, od, rfl, .inl ⟨wK a.outs, upd_same, fun D nD => lc_it walk_keys
    (fun i H' => Same (upd H d (.frz od (.dK (wK a.outs)))) H' ∧ H' D = some (.lst (((a.outs.map fun x => near.contains x.1).map V.bl).take i))) ⟨same_new nD, upd_same⟩ (fun i H' _ q => q.1 _ _ upd_same) ?_ ?_⟩⟩
  · rintro i x H2 H3 hi ⟨s2, hD⟩ ⟨rfl, kk, v, e, rfl⟩
    rw [wK_len] at hi
    have ei : a.outs[i]? = some a.outs[i] := List.getElem?_eq_getElem hi
    rw [wK_at ei] at e
    cases e
    refine ⟨rfl, ?_⟩
    refine ⟨_, rfl, _, rfl, l, nv near, rfl, .inl (SqL.of (s2 _ _ (lock_sub hl nld))), rfl, nv_flat _, ?_⟩
    refine lc_more nD s2 hD (Same.refl _) ?_ (by simpa using hz)
    rw [List.getElem?_map, List.getElem?_map, ei]
    show some (V.bl (near.contains a.outs[i].1)) = some (V.bl (inV (V.int (a.outs[i].1 : Int)) (nv near)))
    rw [inV_nv]
  · rintro H2 ⟨s2, hD⟩
    have e1 : (wK a.outs).length = ((a.outs.map fun x => near.contains x.1).map V.bl).length := by rw [wK_len]; simp
    rw [e1, List.take_length] at hD
    refine ⟨s2 _ _ upd_same, k _ D (lock_same h2 s2) ?_⟩
    have nDd : D ≠ d := fun e => by rw [e, upd_same] at nD; cases nD
    rw [upd_ne nDd]; exact hD
theorem ok_may {f : Addr} {fd : FuncData} (F : Fun K "may_lead_to" "Act.may_lead_to" sMay f fd) (T : Txt K mg C) : FnOk P w K mg base CX0 1 f fd ["self", "states"] (spMay C) := by
  refine F.ok scMay (fun vs H Q E h => ?_) (fun cdv A outer s H vs Q E hr h => ?_)
  · obtain ⟨p, l, a, near, rfl, _⟩ := h
    rfl
  · obtain ⟨p, l, a, near, rfl, hA, hl, hz, k⟩ := h
    refine ⟨_, pss_one (ps_ret (pe_callB (cr_any rfl) (by rfl) T.any (by decide +kernel) (pa_cons (pe_lock (pe_lc (own := [("state", 2)]) (g := gName 2) (tt := tYes) (te := tOp (rIn K false) (tVar 2) (tVar 1)) rfl scMay.nd (pi_keys (pe_fld (pv 0) rfl))
      (blkOk_by (own := [("state", 2)]) (N := nMay) (sc := defScope sMay) (by decide +kernel)) (fun _ _ _ _ _ => pg_name (i := 2) scMay.nd rfl (Or.inl rfl)) (fun _ _ _ _ _ => pts_nil) (fun _ _ _ _ _ => pe_cmpR op_in_seq (pv 2) (pv 1) (by rfl)))) pa_nil))), ?_⟩
    refine outs_bools T.clA T.aWeights hA hl hz fun H' D s1 hD => ⟨D, _, rfl, SqL.of hD, ?_⟩
    have e : (a.outs.map fun x => near.contains x.1).any id = a.outs.any fun x => near.contains x.1 := by rw [List.any_map]; rfl
    rw [e]
    exact k H' s1
theorem ok_only {f : Addr} {fd : FuncData} (F : Fun K "leads_only_to" "Act.leads_only_to" sOnly f fd) (T : Txt K mg C) : FnOk P w K mg base CX0 1 f fd ["self", "states"] (spOnly C) := by
  refine F.ok scOnly (fun vs H Q E h => ?_) (fun cdv A outer s H vs Q E hr h => ?_)
  · obtain ⟨p, l, a, near, rfl, _⟩ := h
    rfl
  · obtain ⟨p, l, a, near, rfl, hA, hl, hz, k⟩ := h
    refine ⟨_, pss_one (ps_ret (pe_callB (cr_all rfl) (by rfl) T.all (by decide +kernel) (pa_cons (pe_lock (pe_lc (own := [("state", 2)]) (g := gName 2) (tt := tYes) (te := tOp (rIn K false) (tVar 2) (tVar 1)) rfl scOnly.nd (pi_keys (pe_fld (pv 0) rfl))
      (blkOk_by (own := [("state", 2)]) (N := nMay) (sc := defScope sOnly) (by decide +kernel)) (fun _ _ _ _ _ => pg_name (i := 2) scOnly.nd rfl (Or.inl rfl)) (fun _ _ _ _ _ => pts_nil) (fun _ _ _ _ _ => pe_cmpR op_in_seq (pv 2) (pv 1) (by rfl)))) pa_nil))), ?_⟩
    refine outs_bools T.clA T.aWeights hA hl hz fun H' D s1 hD => ⟨D, _, rfl, SqL.of hD, ?_⟩
    have e : (a.outs.map fun x => near.contains x.1).all id = a.outs.all fun x => near.contains x.1 := by rw [List.all_map]; rfl
    rw [e]
    exact k H' s1
/-! ### Values.__init__ -/
theorem scValInit : FnScope ["self", "tops", "bottom"] ["self", "tops", "bottom"] (defScope sValInit) := ⟨rfl, rfl, rfl, by decide +kernel, rfl, by decide +kernel, by decide +kernel⟩
def spValInit (C : Adr) : Sp := fun vs H Q _ => ∃ (p dx t : Addr) (tops : List Int) (b : Int), vs = [.ref p, .ref t, .int b] ∧ H p = some (.ins C.v dx []) ∧ H t = some (.lst (iv tops)) ∧
  ∀ H' : Hp, ValAt C H' p tops b → (∀ q o, H q = some o → q ≠ p → H' q = some o) → Q .non H'
theorem ok_valInit {f : Addr} {fd : FuncData} (F : Fun K "__init__" "Values.__init__" sValInit f fd) (T : Txt K mg C) : FnOk P w K mg base CX0 1 f fd ["self", "tops", "bottom"] (spValInit C) := by
  refine F.ok scValInit (fun vs H Q E h => ?_) (fun cdv A outer s H vs Q E hr h => ?_)
  · obtain ⟨p, dx, t, tops, b, rfl, _⟩ := h
    rfl
  · obtain ⟨p, dx, t, tops, b, rfl, hp, ht, k⟩ := h
    refine ⟨_, pss_cons (ps_fld (pv 0) (pv 1) rfl) (pss_one (ps_fld (pv 0) (pv 2) rfl)), ?_⟩
    have ntp : t ≠ p := ne_of ht hp (by intro z; cases z)
    refine ⟨_, rfl, _, rfl, p, C.v, dx, [], rfl, hp, T.clV, T.vTops, (by show 0 < 1000; decide), ?_⟩
    refine ⟨_, rfl, _, rfl, p, C.v, dx, _, rfl, upd_same, T.clV, T.vBottom, (by show 1 < 1000; decide), ?_⟩
    refine k _ ⟨dx, t, ?_, ?_⟩ fun q o e hb => ?_
    · rw [upd_same]; rfl
    · rw [upd_ne ntp, upd_ne ntp]; exact ht
    · rw [upd_ne hb, upd_ne hb]; exact e
/-! ### Tape -/
theorem scTapInit : FnScope ["self", "calls"] ["self", "calls"] (defScope sTapInit) := ⟨rfl, rfl, rfl, by decide +kernel, rfl, by decide +kernel, by decide +kernel⟩
theorem scMore : FnScope ["self"] ["self"] (defScope sMore) := ⟨rfl, rfl, rfl, by decide +kernel, rfl, by decide +kernel, by decide +kernel⟩
theorem scNumber : FnScope ["self"] ["self"] (defScope sNumber) := ⟨rfl, rfl, rfl, by decide +kernel, rfl, by decide +kernel, by decide +kernel⟩
theorem scRow : FnScope ["self", "size"] ["self"] (defScope sRow) := ⟨rfl, rfl, rfl, by decide +kernel, rfl, by decide +kernel, by decide +kernel⟩
def TapAt (C : Adr) (H : Hp) (p dx c : Addr) (i : Nat) : Prop := H p = some (.ins C.t dx (tapF c i))
def spTapInit (C : Adr) : Sp := fun vs H Q _ => ∃ (p dx c : Addr), vs = [.ref p, .ref c] ∧ H p = some (.ins C.t dx []) ∧
  ∀ H' : Hp, TapAt C H' p dx c 0 → (∀ q o, H q = some o → q ≠ p → H' q = some o) → Q .non H'
def spMore (K : PySem.W.Frag) (C : Adr) : Sp := fun vs H Q _ => ∃ (p dx c : Addr) (i : Nat) (l : List Int), vs = [.ref p] ∧ TapAt C H p dx c i ∧ SqL K H c (iv l) ∧ Q (.bl (decide (i < l.length))) H
def spNumber (K : PySem.W.Frag) (C : Adr) : Sp := fun vs H Q _ => ∃ (p dx c : Addr) (i : Nat) (l : List Int) (x : Int), vs = [.ref p] ∧ TapAt C H p dx c i ∧ (∀ o, SqL K (upd H p o) c (iv l)) ∧ l[i]? = some x ∧ Q (.int x) (upd H p (.ins C.t dx (tapF c (i + 1))))
/-- a row: how many numbers, then these, a new list -/
def spRow (K : PySem.W.Frag) (C : Adr) : Sp := fun vs H Q _ => ∃ (p dx c : Addr) (i n : Nat) (l : List Int), vs = [.ref p] ∧ TapAt C H p dx c i ∧ (∀ o, SqL K (upd H p o) c (iv l)) ∧ l[i]? = some (n : Int) ∧ i + 1 + n ≤ l.length ∧
  ∀ d, H d = none → Q (.ref d) (upd (upd H p (.ins C.t dx (tapF c (i + 1 + n)))) d (.lst (iv ((l.drop (i + 1)).take n))))
theorem ok_tapInit {f : Addr} {fd : FuncData} (F : Fun K "__init__" "Tape.__init__" sTapInit f fd) (T : Txt K mg C) : FnOk P w K mg base CX0 1 f fd ["self", "calls"] (spTapInit C) := by
  refine F.ok scTapInit (fun vs H Q E h => ?_) (fun cdv A outer s H vs Q E hr h => ?_)
  · obtain ⟨p, dx, c, rfl, _⟩ := h
    rfl
  · obtain ⟨p, dx, c, rfl, hp, k⟩ := h
    refine ⟨_, pss_cons (ps_fld (pv 0) (pv 1) rfl) (pss_one (ps_fld (pv 0) pe_int rfl)), ?_⟩
    refine ⟨_, rfl, _, rfl, p, C.t, dx, [], rfl, hp, T.clT, T.tCalls, (by show 0 < 1000; decide), ?_⟩
    refine ⟨_, rfl, p, C.t, dx, _, rfl, upd_same, T.clT, T.tPlace, (by show 1 < 1000; decide), ?_⟩
    refine k _ ?_ fun q o e hb => ?_
    · unfold TapAt; rw [upd_same]; rfl
    · rw [upd_ne hb, upd_ne hb]; exact e
theorem ok_more {f : Addr} {fd : FuncData} (F : Fun K "has_more" "Tape.has_more" sMore f fd) (T : Txt K mg C) : FnOk P w K mg base CX0 1 f fd ["self"] (spMore K C) := by
  refine F.ok scMore (fun vs H Q E h => ?_) (fun cdv A outer s H vs Q E hr h => ?_)
  · obtain ⟨p, dx, c, i, l, rfl, _⟩ := h
    rfl
  · obtain ⟨p, dx, c, i, l, rfl, hp, hc, k⟩ := h
    refine ⟨_, pss_one (ps_ret (pe_cmpR op_lt (pe_fld (pv 0) rfl) (pe_callB call_len_seq (by rfl) T.len PySem.boot_len (pa_cons (pe_fld (pv 0) rfl) pa_nil)) (nomark _))), ?_⟩
    refine ⟨_, rfl, p, C.t, dx, _, _, rfl, hp, T.clT, T.tPlace, tF_place _ _, _, rfl, p, C.t, dx, _, _, rfl, hp, T.clT, T.tCalls, tF_calls _ _, c, _, rfl, .inl hc, _, _, rfl, rfl, ?_⟩
    have e : decide ((i : Int) < ((iv l).length : Int)) = decide (i < l.length) := by
      rw [List.length_map]; simp
    show Q (V.bl (decide ((i : Int) < (((iv l).length : Nat) : Int)))) H
    rw [e]; exact k
theorem ok_number {f : Addr} {fd : FuncData} (F : Fun K "take" "Tape.take" sNumber f fd) (T : Txt K mg C) : FnOk P w K mg base CX0 1 f fd ["self"] (spNumber K C) := by
  refine F.ok scNumber (fun vs H Q E h => ?_) (fun cdv A outer s H vs Q E hr h => ?_)
  · obtain ⟨p, dx, c, i, l, x, rfl, _⟩ := h
    rfl
  · obtain ⟨p, dx, c, i, l, x, rfl, hp, hc, hx, k⟩ := h
    refine ⟨_, pss_cons (ps_fld (pv 0) (pe_op op_add (pe_fld (pv 0) rfl) pe_int) rfl) (pss_one (ps_ret (pe_ix ix_list (pe_fld (pv 0) rfl) (pe_op op_sub (pe_fld (pv 0) rfl) pe_int) (fun _ _ => rfl)))), ?_⟩
    refine ⟨_, rfl, p, C.t, dx, _, _, rfl, hp, T.clT, T.tPlace, tF_place _ _, _, _, rfl, rfl, _, rfl, p, C.t, dx, _, rfl, hp, T.clT, T.tPlace, (by show 2 < 1000; decide), ?_⟩
    have e1 : putF "place" (V.int ((i : Int) + 1)) (tapF c i) = tapF c (i + 1) := by
      rw [show ((i : Int) + 1) = ((i + 1 : Nat) : Int) by omega, tF_put]
    rw [e1]
    refine ⟨_, rfl, p, C.t, dx, _, _, rfl, upd_same, T.clT, T.tCalls, tF_calls _ _, _, rfl, p, C.t, dx, _, _, rfl, upd_same, T.clT, T.tPlace, tF_place _ _, _, _, rfl, rfl, c, _, _, .int x, rfl, rfl, hc _, ?_, k⟩
    rw [show (((i + 1 : Nat) : Int) - 1) = (i : Int) by omega]
    exact atI_nat (by rw [List.getElem?_map, hx]; rfl)
end
end ByH

set_option maxRecDepth 100000
set_option maxHeartbeats 2000000
/-! ByFi: Tape.row, rise_below, leads_fit. -/
namespace ByH
open PySem PySem.Spec PyProof.Rows L2 ByR
theorem cut_nat (xs : List V) {i j : Nat} (h : i ≤ j) (hj : j ≤ xs.length) : cutV xs (some (i : Int)) (some (j : Int)) = (xs.drop i).take (j - i) := by
  unfold cutV
  rw [HT.sIx_nat, HT.sIx_nat, Nat.min_eq_left hj, Nat.min_eq_left (Nat.le_trans h hj)]
section
variable {P : Program} {w : World} {K : PySem.W.Frag} {mg : Str → Option Value} {base : Heap} {C : Adr}
theorem ok_row {f fN : Addr} {fd fdN : FuncData} (F : Fun K "take_row" "Tape.take_row" sRow f fd) (FN : Fun K "take" "Tape.take" sNumber fN fdN) (bN : Binds K fdN ["self"] []) (mN : Meth K C.t "take" fN) (T : Txt K mg C) : FnOk P w K mg base CX0 2 f fd ["self"] (spRow K C) := by
  have GN : FnOk P w K mg base CX0 1 fN fdN ["self"] (spNumber K C) := ok_number FN T
  refine F.ok scRow (fun vs H Q E h => ?_) (fun cdv A outer s H vs Q E hr h => ?_)
  · obtain ⟨p, dx, c, i, n, l, rfl, _⟩ := h
    rfl
  · obtain ⟨p, dx, c, i, n, l, rfl, hp, hc, hx, hl, k⟩ := h
    refine ⟨_, pss_cons (ps_set (i := 1) scRow.nd rfl (Or.inl rfl) (pe_meth0 (pv 0) T.clT mN GN hr bN .nil pass0)) (pss_cons (ps_fld (pv 0) (pe_op op_add (pe_fld (pv 0) rfl) (pv 1)) rfl)
      (pss_one (ps_ret (pe_slice sl_list (pe_fld (pv 0) rfl) (po_some (pe_op op_sub (pe_fld (pv 0) rfl) (pv 1))) (po_some (pe_fld (pv 0) rfl)))))), ?_⟩
    refine ⟨_, rfl, p, dx, _, rfl, hp, rfl, p, dx, c, i, l, (n : Int), rfl, hp, hc, hx, ?_⟩
    refine ⟨_, rfl, p, C.t, dx, _, _, rfl, upd_same, T.clT, T.tPlace, tF_place _ _, _, rfl, _, _, rfl, rfl, _, rfl, p, C.t, dx, _, rfl, upd_same, T.clT, T.tPlace, (by show 2 < 1000; decide), ?_⟩
    have e1 : putF "place" (V.int (((i + 1 : Nat) : Int) + (n : Int))) (tapF c (i + 1)) = tapF c (i + 1 + n) := by
      rw [show (((i + 1 : Nat) : Int) + (n : Int)) = ((i + 1 + n : Nat) : Int) by omega, tF_put]
    rw [e1]
    have e2 : upd (upd H p (.ins C.t dx (tapF c (i + 1)))) p (.ins C.t dx (tapF c (i + 1 + n))) = upd H p (.ins C.t dx (tapF c (i + 1 + n))) := by
      funext q
      by_cases e : q = p
      · subst e; rw [upd_same, upd_same]
      · rw [upd_ne e, upd_ne e, upd_ne e]
    rw [e2]
    refine ⟨_, rfl, p, C.t, dx, _, _, rfl, upd_same, T.clT, T.tCalls, tF_calls _ _, _, rfl, p, C.t, dx, _, _, rfl, upd_same, T.clT, T.tPlace, tF_place _ _, _, rfl, _, _, rfl, rfl, _, rfl, _, rfl, p, C.t, dx, _, _, rfl, upd_same, T.clT, T.tPlace, tF_place _ _, _, rfl, c, _, rfl, hc _, fun d hd => ?_⟩
    have hd' : H d = none := by
      by_cases e : d = p
      · rw [e, upd_same] at hd; cases hd
      · rw [upd_ne e] at hd; exact hd
    have e3 : (((i + 1 + n : Nat) : Int) - (n : Int)) = ((i + 1 : Nat) : Int) := by omega
    rw [e3, cut_nat (iv l) (by omega) (by rw [List.length_map]; exact hl)]
    have := k d hd'
    rw [show i + 1 + n - (i + 1) = n by omega]
    have em : iv ((l.drop (i + 1)).take n) = ((iv l).drop (i + 1)).take n := by simp only [iv, List.map_take, List.map_drop]
    rw [em] at this
    exact this
/-! ### rise_below -/
abbrev sRise : Stmt := top 22
abbrev nRise : List Str := ["states", "many", "least", "state"]
theorem scRise : FnScope nRise ["states", "many"] (defScope sRise) := ⟨rfl, rfl, rfl, by decide +kernel, rfl, by decide +kernel, by decide +kernel⟩
open By (riseB fitB ev2)
theorem riseB_cons (many least s : Nat) (r : List Nat) : riseB many least (s :: r) = (!(decide (s < least)) && !(decide (many ≤ s)) && riseB many (s + 1) r) := rfl
def spRise (K : PySem.W.Frag) : Sp := fun vs H Q _ => ∃ (l : Addr) (st : List Nat) (many : Nat), vs = [.ref l, .int (many : Int)] ∧ SqL K H l (nv st) ∧ Q (.bl (riseB many 0 st)) H
theorem nv_at {st : List Nat} {i : Nat} {y : V} (h : (nv st)[i]? = some y) : ∃ n, st[i]? = some n ∧ y = V.int (n : Int) := by
  rw [List.getElem?_map] at h
  cases e : st[i]? with
  | none => rw [e] at h; cases h
  | some n => rw [e] at h; exact ⟨n, rfl, (Option.some.inj h).symm⟩
theorem ok_rise {f : Addr} {fd : FuncData} (F : Fun K "rise_below" "rise_below" sRise f fd) : FnOk P w K mg base CX0 1 f fd ["states", "many"] (spRise K) := by
  refine F.ok scRise (fun vs H Q E h => ?_) (fun cdv A outer s H vs Q E hr h => ?_)
  · obtain ⟨l, st, many, rfl, _⟩ := h
    rfl
  · obtain ⟨l, st, many, rfl, hl, k⟩ := h
    refine ⟨_, pss_cons (ps_set (i := 2) scRise.nd rfl (Or.inl rfl) pe_int) (pss_cons (ps_for PassesOwn.never rfl (pi_list (pv 0)) (pg_name (i := 3) scRise.nd rfl (Or.inl rfl))
        (pss_cons (ps_if (PW.pt (pw_or (pt_cmpR op_lt (pv 3) (pv 2) (nomark _)) (pw_or1 (pt_cmpR op_ge (pv 3) (pv 1) (nomark _))))) (pss_one (ps_ret pe_bl)) pss_nil)
        (pss_one (ps_set (i := 2) scRise.nd rfl (Or.inl rfl) (pe_op op_add (pv 3) pe_int)))))
      (pss_one (ps_ret pe_bl))), ?_⟩
    refine ⟨_, rfl, l, rfl, ⟨_, hl⟩, for_list (K := K) (a := l) (xs := nv st) (fun i σ H' => H' = H ∧ ∃ (least : Nat) (v : Option V), σ = [some (.ref l), some (.int (many : Int)), some (.int (least : Int)), v] ∧ riseB many 0 st = riseB many least (st.drop i))
      ⟨rfl, 0, none, rfl, rfl⟩ (fun i σ H' _ ⟨e, _⟩ => e ▸ hl) ?_ ?_⟩
    · rintro i y σ H' hi ⟨rfl, least, v, rfl, hb⟩
      obtain ⟨n, hn, rfl⟩ := nv_at hi
      have ed : st.drop i = n :: st.drop (i + 1) := by
        obtain ⟨hlt, e⟩ := List.getElem?_eq_some_iff.mp hn
        rw [List.drop_eq_getElem_cons hlt, e]
      rw [ed, riseB_cons] at hb
      refine ⟨_, rfl, _, rfl, _, _, rfl, rfl, _, rfl, ?_⟩
      refine ite2 (fun c1 => ?_) (fun c1 => ?_)
      · have c1' : n < least := by have := of_decide_eq_true c1; omega
        refine iteT ?_
        rw [decide_eq_true c1'] at hb
        simp only [Bool.not_true, Bool.false_and] at hb
        show Q (V.bl false) H'
        rw [← hb]; exact k
      · have c1' : ¬ n < least := fun x => c1 (decide_eq_true (by omega))
        refine ⟨_, rfl, _, rfl, _, _, rfl, rfl, _, rfl, ?_⟩
        refine ite2 (fun c2 => ?_) (fun c2 => ?_)
        · have c2' : many ≤ n := by have := of_decide_eq_true c2; omega
          rw [decide_eq_true c2'] at hb
          simp only [Bool.not_true, Bool.and_false, Bool.false_and] at hb
          show Q (V.bl false) H'
          rw [← hb]; exact k
        · have c2' : ¬ many ≤ n := fun x => c2 (decide_eq_true (by omega))
          rw [decide_eq_false c1', decide_eq_false c2'] at hb
          simp only [Bool.not_false, Bool.true_and] at hb
          refine ⟨_, rfl, _, _, rfl, rfl, rfl, n + 1, some (.int (n : Int)), ?_, hb⟩
          rfl
    · rintro σ H' ⟨rfl, least, v, rfl, hb⟩
      rw [List.length_map, List.drop_length] at hb
      show Q (V.bl true) H'
      have : riseB many least [] = true := rfl
      rw [← this, ← hb]; exact k
/-! ### leads_fit -/
abbrev sFit : Stmt := top 23
abbrev nFit : List Str := ["leads", "many", "weights_fit", "weight"]
theorem scFit : FnScope nFit ["leads", "many"] (defScope sFit) := ⟨rfl, rfl, rfl, by decide +kernel, rfl, by decide +kernel, by decide +kernel⟩
def spFit (K : PySem.W.Frag) : Sp := fun vs H Q _ => ∃ (l : Addr) (ls : List Nat) (many : Nat), vs = [.ref l, .int (many : Int)] ∧ H l = some (.lst (nv ls)) ∧ ls.length ≤ 1000 ∧ ∀ H', Same H H' → Q (.bl (fitB many ls)) H'
theorem ok_fit {f fR : Addr} {fd fdR : FuncData} (F : Fun K "leads_fit" "leads_fit" sFit f fd) (FR : Fun K "rise_below" "rise_below" sRise fR fdR) (bR : Binds K fdR ["states", "many"] []) (gR : mg "rise_below" = some (.ref fR)) (kR : PySem.W.keepIn K (.ref fR) = true) (T : Txt K mg C) :
    FnOk P w K mg base CX0 2 f fd ["leads", "many"] (spFit K) := by
  have GR : FnOk P w K mg base CX0 1 fR fdR ["states", "many"] (spRise K) := ok_rise FR
  obtain ⟨tw, gw⟩ := T.cWeight
  refine F.ok scFit (fun vs H Q E h => ?_) (fun cdv A outer s H vs Q E hr h => ?_)
  · obtain ⟨l, ls, many, rfl, _⟩ := h
    rfl
  · obtain ⟨l, ls, many, rfl, hl, hz, k⟩ := h
    refine ⟨_, pss_cons (ps_if (PW.pt (pw_or (pt_cmpR op_eq (pe_callB call_len_seq (by rfl) T.len PySem.boot_len (pa_cons (pv 0) pa_nil)) pe_int (nomark _)) (pw_or1 (pt_cmpR op_ne (pe_op op_mod (pe_callB call_len_seq (by rfl) T.len PySem.boot_len (pa_cons (pv 0) pa_nil)) pe_int) pe_int (nomark _)))))
        (pss_one (ps_ret pe_bl)) pss_nil)
      (pss_cons (ps_set (i := 2) scFit.nd rfl (Or.inl rfl) (pe_callB (cr_all rfl) (by rfl) T.all (by decide +kernel) (pa_cons (pe_lc (own := [("weight", 3)]) (g := gName 3) (tt := tYes) (te := tChain (rI0 fun i j => .bl (decide (i ≤ j))) (rI0 fun i j => .bl (decide (i ≤ j))) (tC (.int 1)) (tVar 3) (tC (.int 20))) rfl scFit.nd
          (pi_list (pe_step 1 (pv 0))) (blkOk_by (own := [("weight", 3)]) (N := nFit) (sc := defScope sFit) (by decide +kernel)) (fun _ _ _ _ _ => pg_name (i := 3) scFit.nd rfl (Or.inl rfl)) (fun _ _ _ _ _ => pts_nil)
          (fun _ _ _ _ _ => pe_chain op_le op_le pe_int (pv 3) (pe_glob rfl gw ⟨_, rfl⟩))) pa_nil)))
      (pss_one (ps_ret (pe_and (pv 2) (pe_one (pe_call GR hr rfl gR kR bR .nil pass0 (pa_cons (pe_step 0 (pv 0)) (pa_cons (pv 1) pa_nil)))))))), ?_⟩
    have lnv : (nv ls).length = ls.length := by simp
    refine ⟨_, rfl, l, _, rfl, .inl (SqL.of hl), rfl, _, rfl, ?_⟩
    refine ite2 (fun c1 => ?_) (fun c1 => ?_)
    · have c1' : ls.length = 0 := by
        have := V.int.inj (of_decide_eq_true c1)
        rw [lnv] at this; omega
      refine iteT ?_
      show Q (V.bl false) H
      have e : fitB many ls = false := by unfold By.fitB; rw [decide_eq_true c1']; rfl
      rw [← e]; exact k H (Same.refl H)
    · have c1' : ¬ ls.length = 0 := fun x => c1 (decide_eq_true (by rw [lnv, x]; rfl))
      refine ⟨_, rfl, l, _, rfl, .inl (SqL.of hl), _, _, rfl, rfl, (by show (0 : Int) < 2; decide), rfl, _, rfl, ?_⟩
      have em : (((nv ls).length : Nat) : Int) % 2 = ((ls.length % 2 : Nat) : Int) := by rw [lnv]; omega
      refine ite2 (fun c2 => ?_) (fun c2 => ?_)
      · have c2' : ls.length % 2 ≠ 0 := fun x => by
          have : decide (V.int ((((nv ls).length : Nat) : Int) % 2) = V.int 0) = true := decide_eq_true (by rw [em, x]; rfl)
          rw [this] at c2; cases c2
        show Q (V.bl false) H
        have e : fitB many ls = false := by unfold By.fitB; rw [decide_eq_false c1', decide_eq_true c2']; rfl
        rw [← e]; exact k H (Same.refl H)
      · have c2' : ¬ ls.length % 2 ≠ 0 := fun x => c2 (by
          have : decide (V.int ((((nv ls).length : Nat) : Int) % 2) = V.int 0) = false := decide_eq_false (fun y => x (by
            have := V.int.inj y
            rw [em] at this; omega))
          show (!decide (V.int ((((nv ls).length : Nat) : Int) % 2) = V.int 0)) = true
          rw [this]; rfl)
        -- weights
        refine ⟨_, rfl, l, _, rfl, SqL.of hl, fun p np => ?_⟩
        have hp : (upd H p (.lst (ev2 ((nv ls).drop 1)))) p = some (.lst (ev2 ((nv ls).drop 1))) := upd_same
        have ew : ev2 ((nv ls).drop 1) = nv (ev2 (ls.drop 1)) := by rw [← List.map_drop, ← ev2_map]
        have hlen : (ev2 (ls.drop 1)).length ≤ 1000 := by rw [ev2_len, List.length_drop]; omega
        have s0 : Same H (upd H p (.lst (ev2 ((nv ls).drop 1)))) := same_new np
        generalize hb : ((ev2 (ls.drop 1)).map fun x => decide (1 ≤ x) && decide (x ≤ 20)) = bs
        refine ⟨p, rfl, ⟨_, SqL.of hp⟩, fun D nD => lc_list (K := K) (a := p) (xs := nv (ev2 (ls.drop 1))) (fun i H' => Same (upd H p (.lst (ev2 ((nv ls).drop 1)))) H' ∧ H' D = some (.lst ((bs.map V.bl).take i))) ⟨same_new nD, upd_same⟩
          (fun i H' _ q => by have := SqL.of (K := K) (q.1 _ _ hp); rw [ew] at this; exact this) ?_ ?_⟩
        · rintro i y H' hi ⟨s1, hD⟩
          obtain ⟨n, hn, rfl⟩ := nv_at hi
          have eb : (bs.map V.bl)[i]? = some (V.bl (decide (1 ≤ n) && decide (n ≤ 20))) := by rw [← hb, List.getElem?_map, List.getElem?_map, hn]; rfl
          have hbz : (bs.map V.bl).length ≤ 1000 := by rw [← hb]; simpa using hlen
          refine ⟨rfl, _, rfl, _, _, rfl, rfl, _, rfl, ?_⟩
          refine ite2 (fun c3 => ?_) (fun c3 => ?_)
          · have c3' : 1 ≤ n := by have := of_decide_eq_true c3; omega
            refine ⟨_, _, rfl, rfl, ?_⟩
            refine lc_more nD s1 hD (Same.refl _) ?_ hbz
            rw [eb, decide_eq_true c3', Bool.true_and]
            by_cases c4 : n ≤ 20
            · show some (V.bl (decide (n ≤ 20))) = some (V.bl (decide ((n : Int) ≤ 20)))
              rw [decide_eq_true c4, decide_eq_true (show (n : Int) ≤ 20 by omega)]
            · show some (V.bl (decide (n ≤ 20))) = some (V.bl (decide ((n : Int) ≤ 20)))
              rw [decide_eq_false c4, decide_eq_false (show ¬ (n : Int) ≤ 20 by omega)]
          · have c3' : ¬ 1 ≤ n := fun x => c3 (decide_eq_true (by omega))
            refine lc_more nD s1 hD (Same.refl _) ?_ hbz
            rw [eb, decide_eq_false c3', Bool.false_and]
        · rintro H' ⟨s1, hD⟩
          have e1 : (nv (ev2 (ls.drop 1))).length = (bs.map V.bl).length := by rw [← hb]; simp
          rw [e1, List.take_length] at hD
          refine ⟨D, _, rfl, SqL.of hD, ?_⟩
          have s01 := s0.trans s1
          have eall : bs.all id = (ev2 (ls.drop 1)).all fun x => decide (1 ≤ x) && decide (x ≤ 20) := by rw [← hb, List.all_map]; rfl
          refine ⟨_, rfl, _, rfl, ?_⟩
          refine ite2 (fun c5 => ?_) (fun c5 => ?_)
          · refine ⟨_, rfl, l, _, rfl, SqL.of (s01 _ _ hl), fun q nq => ⟨_, rfl, q, ev2 ls, many, rfl, ?_, ?_⟩⟩
            · rw [List.drop_zero, ← ev2_map]; exact SqL.of upd_same
            · have e : fitB many ls = riseB many 0 (ev2 ls) := by
                unfold By.fitB
                rw [decide_eq_false c1', decide_eq_false c2', ← eall, c5]; rfl
              rw [← e]
              exact k _ (s01.trans (same_new nq))
          · have e : fitB many ls = false := by
              unfold By.fitB
              rw [← eall]
              have : bs.all id = false := by simpa using c5
              rw [this]; simp
            show Q (V.bl false) H'
            rw [← e]
            exact k _ s01
end
end ByH

set_option maxRecDepth 100000
set_option maxHeartbeats 2000000
/-! BySe: Search: __init__, acts_towards, first_rule. -/
namespace ByH
open PySem PySem.Spec PyProof.Rows L2 ByR
abbrev sSeaInit : Stmt := inClass (top 19) 0
abbrev sBest : Stmt := inClass (top 19) 1
abbrev sFirst : Stmt := inClass (top 19) 2
abbrev sTow : Stmt := inClass (top 19) 3
abbrev sVals : Stmt := inClass (top 19) 4
abbrev sEqu : Stmt := inClass (top 19) 5
abbrev sBet : Stmt := inClass (top 19) 6
abbrev sBestActs : Stmt := inClass (top 19) 7
abbrev sWorth : Stmt := inClass (top 19) 8
theorem small {n : Nat} (h : n ≤ 1000) : n < sizeLine := small1000 h
section
variable {P : Program} {w : World} {K : PySem.W.Frag} {mg : Str → Option Value} {base : Heap} {C : Adr}
theorem scSeaInit : FnScope ["self", "many", "wanted", "acts", "goal", "rate"] ["self", "many", "wanted", "acts", "goal", "rate"] (defScope sSeaInit) := ⟨rfl, rfl, rfl, by decide +kernel, rfl, by decide +kernel, by decide +kernel⟩
def spSeaInit (C : Adr) : Sp := fun vs H Q _ => ∃ (p dx wl al : Addr) (n : Nat) (g r : Int), vs = [.ref p, .int (n : Int), .ref wl, .ref al, .int g, .int r] ∧ H p = some (.ins C.s dx []) ∧
  ∀ H' : Hp, H' p = some (.ins C.s dx (seaF n wl al g r)) → (∀ b o, H b = some o → b ≠ p → H' b = some o) → Q .non H'
theorem ok_seaInit {f : Addr} {fd : FuncData} (F : Fun K "__init__" "Search.__init__" sSeaInit f fd) (T : Txt K mg C) : FnOk P w K mg base CX0 1 f fd ["self", "many", "wanted", "acts", "goal", "rate"] (spSeaInit C) := by
  refine F.ok scSeaInit (fun vs H Q E h => ?_) (fun cdv A outer s H vs Q E hr h => ?_)
  · obtain ⟨p, dx, wl, al, n, g, r, rfl, _⟩ := h
    rfl
  · obtain ⟨p, dx, wl, al, n, g, r, rfl, hp, k⟩ := h
    refine ⟨_, pss_cons (ps_fld (pv 0) (pv 1) rfl) (pss_cons (ps_fld (pv 0) (pv 2) rfl) (pss_cons (ps_fld (pv 0) (pv 3) rfl) (pss_cons (ps_fld (pv 0) (pv 4) rfl) (pss_one (ps_fld (pv 0) (pv 5) rfl))))), ?_⟩
    refine ⟨_, rfl, _, rfl, p, C.s, dx, [], rfl, hp, T.clS, T.sMany, (by show 0 < 1000; decide), ?_⟩
    refine ⟨_, rfl, _, rfl, p, C.s, dx, _, rfl, upd_same, T.clS, T.sWanted, (by show 1 < 1000; decide), ?_⟩
    refine ⟨_, rfl, _, rfl, p, C.s, dx, _, rfl, upd_same, T.clS, T.sActs, (by show 2 < 1000; decide), ?_⟩
    refine ⟨_, rfl, _, rfl, p, C.s, dx, _, rfl, upd_same, T.clS, T.sGoal, (by show 3 < 1000; decide), ?_⟩
    refine ⟨_, rfl, _, rfl, p, C.s, dx, _, rfl, upd_same, T.clS, T.sRate, (by show 4 < 1000; decide), ?_⟩
    refine k _ ?_ fun b o e hb => ?_
    · rw [upd_same]; rfl
    · rw [upd_ne hb, upd_ne hb, upd_ne hb, upd_ne hb, upd_ne hb]; exact e
/-! ### acts_towards -/
abbrev nTow : List Str := ["self", "near", "found", "act"]
theorem scTow : FnScope nTow ["self", "near"] (defScope sTow) := ⟨rfl, rfl, rfl, by decide +kernel, rfl, by decide +kernel, by decide +kernel⟩
structure Few (t : Pn08.Task) (idx : List Nat) : Prop where
  len : idx.length ≤ 100
  outs : ∀ k ∈ idx, (t.act k).outs.length ≤ 1000
def spTow (C : Adr) : Sp := fun vs H Q _ => ∃ (p wl al l : Addr) (t : Pn08.Task) (idx near : List Nat) (addr : Nat → Addr) (g r : Int), vs = [.ref p, .ref l] ∧ SeaAt C H p t wl al idx addr g r ∧ H l = some (.lst (nv near)) ∧ Few t idx ∧
  ∀ (H' : Hp) (d : Addr), Same H H' → H d = none → H' d = some (.dK (rK addr (By.towardsM t idx near))) → Q (.ref d) H'
theorem tow_len {t : Pn08.Task} {near : List Nat} : ∀ (idx : List Nat) (f : By.RL), (idx.foldl (By.towStep t near) f).length ≤ f.length + idx.length
  | [], _ => Nat.le_refl _
  | k :: idx, f => by
    rw [List.foldl_cons]
    refine Nat.le_trans (tow_len idx _) ?_
    have : (By.towStep t near f k).length ≤ f.length + 1 := by
      unfold By.towStep By.putR
      split
      · split <;> simp
      · omega
    simp only [List.length_cons]; omega
theorem ref_at {idx : List Nat} {addr : Nat → Addr} {i : Nat} {y : V} (h : (idx.map fun k => V.ref (addr k))[i]? = some y) : ∃ k, idx[i]? = some k ∧ y = V.ref (addr k) := by
  rw [List.getElem?_map] at h
  cases e : idx[i]? with
  | none => rw [e] at h; cases h
  | some n => rw [e] at h; exact ⟨n, rfl, (Option.some.inj h).symm⟩
theorem ok_tow {f fM : Addr} {fd fdM : FuncData} (F : Fun K "acts_towards" "Search.acts_towards" sTow f fd) (FM : Fun K "may_lead_to" "Act.may_lead_to" sMay fM fdM) (bM : Binds K fdM ["self", "states"] []) (mM : Meth K C.a "may_lead_to" fM) (T : Txt K mg C) :
    FnOk P w K mg base CX0 2 f fd ["self", "near"] (spTow C) := by
  have GM : FnOk P w K mg base CX0 1 fM fdM ["self", "states"] (spMay C) := ok_may FM T
  refine F.ok scTow (fun vs H Q E h => ?_) (fun cdv A outer s H vs Q E hr h => ?_)
  · obtain ⟨p, wl, al, l, t, idx, near, addr, g, r, rfl, _⟩ := h
    rfl
  · obtain ⟨p, wl, al, l, t, idx, near, addr, g, r, rfl, hS, hl, few, k⟩ := h
    have hu := hu_of hr
    refine ⟨_, pss_cons (ps_set (i := 2) scTow.nd rfl (Or.inl rfl) pe_dnewK) (pss_cons (ps_for PassesOwn.never rfl (pi_list (pe_fld (pv 0) rfl)) (pg_name (i := 3) scTow.nd rfl (Or.inl rfl))
        (pss_one (ps_if (PW.pt (pw_and (pt_cmpR op_notIn_seq (pe_fld (pv 3) rfl) (pv 1) (by rfl)) (pw_and (pt_cmp (pc_dnotin hu (pe_fld (pv 3) rfl) (pv 2))) (pw_and1 (pt_val (pe_meth (pv 3) T.clA mM GM hr bM .nil pass0 (pa_cons (pv 1) pa_nil)))))))
          (pss_one (ps_dput hu (pv 2) (pe_fld (pv 3) rfl) (pv 3) rfl)) pss_nil)))
      (pss_one (ps_ret (pv 2)))), ?_⟩
    intro d nd
    obtain ⟨dxS, hp⟩ := hS.ins
    have s0 : Same H (upd H d (.dK [])) := same_new nd
    refine ⟨_, rfl, p, C.s, dxS, _, _, rfl, s0 _ _ hp, T.clS, T.sActs, sF_acts _ _ _ _ _, al, rfl, ⟨_, SqL.of (s0 _ _ hS.list)⟩, for_list (K := K) (a := al) (xs := idx.map fun k => V.ref (addr k))
      (fun i σ H' => Same H H' ∧ ∃ v : Option V, σ = [some (.ref p), some (.ref l), some (.ref d), v] ∧ H' d = some (.dK (rK addr ((idx.take i).foldl (By.towStep t near) []))))
      ⟨s0, none, rfl, upd_same⟩ (fun i σ H' _ q => SqL.of (q.1 _ _ hS.list)) ?_ ?_⟩
    · rintro i y σ H' hi ⟨s1, v, rfl, hd⟩
      obtain ⟨kk, hk, rfl⟩ := ref_at hi
      have km : kk ∈ idx := List.mem_of_getElem? hk
      have hA := (hS.acts kk km).same s1
      obtain ⟨nn, dx, dw, h1, h2⟩ := id hA
      have hl1 := s1 _ _ hl
      have est : (idx.take (i + 1)).foldl (By.towStep t near) [] = By.towStep t near ((idx.take i).foldl (By.towStep t near) []) kk := by
        rw [take_succ hk, List.foldl_append]; rfl
      have hlen : ((idx.take i).foldl (By.towStep t near) []).length ≤ 100 := by
        have := tow_len (t := t) (near := near) (idx.take i) []
        rw [List.length_take] at this
        have := few.len
        simp only [List.length_nil] at *
        omega
      generalize (idx.take i).foldl (By.towStep t near) [] = fnd at hd est hlen
      have nxt : ∀ (H4 : Hp) (u : By.RL), Same H' H4 → By.towStep t near fnd kk = u → H4 d = some (.dK (rK addr u)) → Same H H4 ∧ ∃ v : Option V, ([some (V.ref p), some (.ref l), some (.ref d), some (.ref (addr kk))] : L2.St) = [some (.ref p), some (.ref l), some (.ref d), v] ∧ H4 d = some (.dK (rK addr ((idx.take (i + 1)).foldl (By.towStep t near) []))) :=
        fun H4 u s4 eu h4 => ⟨s1.trans s4, _, rfl, by rw [est, eu]; exact h4⟩
      refine ⟨_, rfl, addr kk, C.a, dx, _, _, rfl, h1, T.clA, T.aState, aF_state _ _ _, _, rfl, l, nv near, rfl, .inl (SqL.of hl1), rfl, nv_flat _, _, rfl, ?_⟩
      have e1 : inV (V.int ((t.act kk).at_ : Int)) (nv near) = near.contains (t.act kk).at_ := inV_nv _ _
      refine ite2 (fun c1 => ?_) (fun c1 => ?_)
      · have c1' : near.contains (t.act kk).at_ = false := by
          rw [← e1]
          have : (!inV (V.int ((t.act kk).at_ : Int)) (nv near)) = true := c1
          simpa using this
        refine ⟨_, rfl, addr kk, C.a, dx, _, _, rfl, h1, T.clA, T.aState, aF_state _ _ _, _, rfl, d, _, rfl, DGet.k (k := Sum.inl ((t.act kk).at_ : Int)) hd, _, rfl, ?_⟩
        rw [rK_some]
        refine ite2 (fun c2 => ?_) (fun c2 => ?_)
        · have c2' : By.inR fnd (t.act kk).at_ = false := by simpa using c2
          refine ⟨_, rfl, addr kk, dx, _, rfl, h1, aF_may _ _ _, _, rfl, addr kk, l, t.act kk, near, rfl, hA, hl1, few.outs kk km, fun H2 s2 => ⟨_, rfl, ?_⟩⟩
          refine ite2 (fun c3 => ?_) (fun c3 => ?_)
          · refine ⟨_, rfl, _, rfl, _, rfl, addr kk, C.a, dx, _, _, rfl, s2 _ _ h1, T.clA, T.aState, aF_state _ _ _, d, _, rfl, DPut.k (k := Sum.inl ((t.act kk).at_ : Int)) (s2 _ _ hd) (by rw [rK_len]; exact small (by omega)), ?_⟩
            have eu : By.towStep t near fnd kk = By.putR fnd (t.act kk).at_ kk := by
              unfold By.towStep By.leadsTo
              rw [c1', c2', c3]; rfl
            refine ⟨?_, _, rfl, ?_⟩
            · exact fun b o e => by
                have nb : b ≠ d := ne_of_none e nd
                rw [upd_ne nb]; exact s2 _ _ (s1 _ _ e)
            · rw [est, eu, upd_same, rK_put]
          · have c3' : ((t.act kk).outs.any fun x => near.contains x.1) = false := by simpa using c3
            refine nxt H2 fnd s2 ?_ (s2 _ _ hd)
            unfold By.towStep By.leadsTo
            rw [c1', c2', c3']; rfl
        · have c2' : By.inR fnd (t.act kk).at_ = true := by simpa using c2
          refine nxt H' fnd (Same.refl _) ?_ hd
          unfold By.towStep
          rw [c1', c2']; rfl
      · have c1' : near.contains (t.act kk).at_ = true := by
          rw [← e1]
          have : ¬ (!inV (V.int ((t.act kk).at_ : Int)) (nv near)) = true := c1
          simpa using this
        refine nxt H' fnd (Same.refl _) ?_ hd
        unfold By.towStep
        rw [c1']; rfl
    · rintro σ H' ⟨s1, v, rfl, hd⟩
      rw [List.length_map, List.take_length] at hd
      exact ⟨_, rfl, k H' d s1 nd hd⟩
end
end ByH

set_option maxRecDepth 100000
set_option maxHeartbeats 2000000
/-! ByFr: Search.first_rule. -/
namespace ByH
open PySem PySem.Spec PyProof.Rows L2 ByR
abbrev nFirst : List Str := ["self", "rule", "near", "nearer"]
theorem scFirst : FnScope nFirst ["self"] (defScope sFirst) := ⟨rfl, rfl, rfl, by decide +kernel, rfl, by decide +kernel, by decide +kernel⟩
def spFirst (C : Adr) : Sp := fun vs H Q _ => ∃ (p wl al : Addr) (t : Pn08.Task) (idx : List Nat) (addr : Nat → Addr) (g r : Int), vs = [.ref p] ∧ SeaAt C H p t wl al idx addr g r ∧ By.Sz t ∧ (∀ k ∈ idx, k < t.acts.length) ∧ Few t idx ∧
  ∀ (H' : Hp) (d : Addr) (rl : By.RL), Same H H' → H d = none → H' d = some (.dK (rK addr rl)) → By.First t idx rl → By.towardsM t idx (t.goal ++ By.keysR rl) = [] → Q (.ref d) H'
def muFirst (n : Nat) : L2.St → Hp → Nat := fun σ H => match σ with
  | [_, _, some (.ref l), _] => match H l with
    | some (.lst xs) => n - xs.length
    | _ => 0
  | _ => 0
section
variable {P : Program} {w : World} {K : PySem.W.Frag} {mg : Str → Option Value} {base : Heap} {C : Adr}
theorem ok_first {f fT fM : Addr} {fd fdT fdM : FuncData} (F : Fun K "first_rule" "Search.first_rule" sFirst f fd) (FT : Fun K "acts_towards" "Search.acts_towards" sTow fT fdT) (bT : Binds K fdT ["self", "near"] []) (mT : Meth K C.s "acts_towards" fT)
    (FM : Fun K "may_lead_to" "Act.may_lead_to" sMay fM fdM) (bM : Binds K fdM ["self", "states"] []) (mM : Meth K C.a "may_lead_to" fM) (T : Txt K mg C) : FnOk P w K mg base CX0 3 f fd ["self"] (spFirst C) := by
  have GT : FnOk P w K mg base CX0 2 fT fdT ["self", "near"] (spTow C) := ok_tow FT FM bM mM T
  refine F.ok scFirst (fun vs H Q E h => ?_) (fun cdv A outer s H vs Q E hr h => ?_)
  · obtain ⟨p, wl, al, t, idx, addr, g, r, rfl, _⟩ := h
    rfl
  · obtain ⟨p, wl, al, t, idx, addr, g, r, rfl, hS, z, hi, few, k⟩ := h
    refine ⟨_, pss_cons (ps_set (i := 1) scFirst.nd rfl (Or.inl rfl) pe_dnewK) (pss_cons (ps_set (i := 2) scFirst.nd rfl (Or.inl rfl) (pe_callTy call_list_of (by rfl) T.list (by decide +kernel) (pa_cons (pe_fld (pv 0) rfl) pa_nil)))
      (pss_cons (ps_set (i := 3) scFirst.nd rfl (Or.inl rfl) (pe_meth (pv 0) T.clS mT GT hr bT .nil pass0 (pa_cons (pv 2) pa_nil)))
      (pss_cons (ps_while PassesOwn.never (pt_cmpR op_gt (pe_callB call_lenD (by rfl) T.len PySem.boot_len (pa_cons (pv 3) pa_nil)) pe_int (nomark _))
        (pss_cons (ps_expr (pe_bm PySem.F.plainAttrs_dict PySem.F.slot_dict_update PySem.F.type_dict_update mtd_update (pv 1) (pa_cons (pv 3) pa_nil)))
        (pss_cons (ps_expr (pe_bm PySem.F.plainAttrs_list PySem.F.slot_list_extend PySem.F.type_list_extend mt_extend (pv 2) (pa_cons (pe_callTy (call_listD rfl) (by rfl) T.list (by decide +kernel) (pa_cons (pv 3) pa_nil)) pa_nil)))
        (pss_one (ps_set (i := 3) scFirst.nd rfl (Or.inl rfl) (pe_meth (pv 0) T.clS mT GT hr bT .nil pass0 (pa_cons (pv 2) pa_nil)))))))
      (pss_one (ps_ret (pv 1)))))), ?_⟩
    obtain ⟨dxS, hp⟩ := hS.ins
    have w' := z.wf
    intro d nd
    have s0 : Same H (upd H d (.dK [])) := same_new nd
    refine ⟨_, rfl, p, C.s, dxS, _, _, rfl, s0 _ _ hp, T.clS, T.sWanted, sF_wanted _ _ _ _ _, wl, _, rfl, .inl (SqL.of (s0 _ _ hS.wanted)), fun ln nln => ?_⟩
    have nln0 : H ln = none := s0.free nln
    have s1 : Same H (upd (upd H d (.dK [])) ln (.lst (nv t.goal))) := s0.trans (same_new nln)
    have ndl : d ≠ ln := ne_of_none (show (upd H d (.dK [])) d = some (.dK []) from upd_same) nln
    refine ⟨_, rfl, p, dxS, _, rfl, s1 _ _ hp, sF_towards _ _ _ _ _, _, rfl, p, wl, al, ln, t, idx, t.goal, addr, g, r, rfl, hS.same s1, upd_same, few, fun H2 dn s2 ndn hdn => ?_⟩
    have ndn0 : H dn = none := s1.free ndn
    have nddn : d ≠ dn := ne_of_none (show (upd (upd H d (.dK [])) ln (.lst (nv t.goal))) d = some (.dK []) by rw [upd_ne ndl]; exact upd_same) ndn
    have hgk : t.goal ++ By.keysR [] = t.goal := by simp [By.keysR]
    refine while_by (fun σ H' => Same H H' ∧ ∃ (rl : By.RL) (dn : Addr), σ = [some (.ref p), some (.ref d), some (.ref ln), some (.ref dn)] ∧ d ≠ dn ∧ H dn = none ∧ H' d = some (.dK (rK addr rl)) ∧ H' ln = some (.lst (nv (t.goal ++ By.keysR rl))) ∧
      H' dn = some (.dK (rK addr (By.towardsM t idx (t.goal ++ By.keysR rl)))) ∧ By.First t idx rl) (muFirst t.states)
      ⟨s1.trans s2, [], dn, rfl, nddn, ndn0, s2 _ _ (by rw [upd_ne ndl]; exact upd_same), by rw [hgk]; exact s2 _ _ upd_same, by rw [hgk]; exact hdn, By.First.start z.goal⟩ ?_ ?_
    · rintro σ H' ⟨sH, rl, dn, rfl, ndd, ndn0, hd, hln, hdn, fst⟩
      have tw := By.towards_ok t idx (t.goal ++ By.keysR rl)
      have fm := fst.more w' hi tw
      have lnd : ∀ {q : By.RL}, By.First t idx q → (t.goal ++ By.keysR q).length ≤ t.states := fun h => By.nodup_le _ _ h.nd (fun x hx => by
        rcases List.mem_append.mp hx with e | e
        · exact w'.goal x e
        · exact h.lt w' hi x e)
      have l1 := lnd fst
      have l2 := lnd fm.1
      have z6 := z.states
      have ekm : By.keysR (By.mergeR rl (By.towardsM t idx (t.goal ++ By.keysR rl))) = By.keysR rl ++ By.keysR (By.towardsM t idx (t.goal ++ By.keysR rl)) := by rw [fm.2]; unfold By.keysR; simp
      generalize hb : By.towardsM t idx (t.goal ++ By.keysR rl) = b at *
      have kl : ∀ q : By.RL, (By.keysR q).length = q.length := fun q => by unfold By.keysR; simp
      rw [List.length_append, kl] at l1
      rw [List.length_append, ekm, List.length_append, kl, kl] at l2
      refine ⟨_, rfl, dn, _, rfl, hdn, _, _, rfl, rfl, _, rfl, ?_⟩
      refine ite2 (fun c => ?_) (fun c => ?_)
      · have bp : 0 < b.length := by
          have := of_decide_eq_true c
          rw [rK_len] at this; omega
        refine ⟨_, rfl, .inr (.inr (.inl ⟨rfl, .inl ⟨_, hd⟩⟩)), _, rfl, d, dn, _, _, rfl, rfl, hd, hdn, ndd, by rw [rK_len, rK_len]; exact Nat.le_of_lt (small (by omega)), ?_⟩
        have nld : ln ≠ d := fun e => ndl e.symm
        have ndnd : dn ≠ d := fun e => ndd e.symm
        have nlndn : ln ≠ dn := ne_of hln hdn (by intro q; cases q)
        refine ⟨_, rfl, .inl ⟨rfl, _, SqL.of (show (upd H' d (.dK (mergeK (rK addr rl) (rK addr b)))) ln = some (.lst (nv (t.goal ++ By.keysR rl))) by rw [upd_ne nld]; exact hln)⟩, _, rfl, dn, _, rfl, .inl (show (upd H' d (.dK (mergeK (rK addr rl) (rK addr b)))) dn = some (.dK (rK addr b)) by rw [upd_ne ndnd]; exact hdn), fun q nq => ?_⟩
        have nqd : q ≠ d := fun e => by rw [e, upd_same] at nq; cases nq
        have nq1 : H' q = none := by rw [upd_ne nqd] at nq; exact nq
        have nlq : ln ≠ q := ne_of_none hln nq1
        have ndq : d ≠ q := ne_of_none hd nq1
        have ndnq : dn ≠ q := ne_of_none hdn nq1
        refine ⟨ln, q, _, _, rfl, rfl, by rw [upd_ne nlq, upd_ne nld]; exact hln, upd_same, ?_, ?_⟩
        · rw [List.length_map, List.length_map, rK_len, List.length_append, kl]; exact Nat.le_of_lt (small (by omega))
        · have hsame : ∀ x, Same H (upd (upd (upd H' d x) q (.lst ((rK addr b).map fun kv => kV kv.1))) ln (.lst (nv (t.goal ++ By.keysR rl) ++ (rK addr b).map fun kv => kV kv.1))) := fun x bb o e => by
            rw [upd_ne (ne_of_none e nln0), upd_ne (ne_of_none e (sH.free nq1)), upd_ne (ne_of_none e nd)]; exact sH _ _ e
          have sA := hsame (.dK (mergeK (rK addr rl) (rK addr b)))
          have enear : nv (t.goal ++ By.keysR rl) ++ ((rK addr b).map fun kv => kV kv.1) = nv (t.goal ++ By.keysR (By.mergeR rl b)) := by
            rw [rK_keys, ekm]; simp [nv]
          rw [enear] at sA ⊢
          refine ⟨_, rfl, p, dxS, _, rfl, sA _ _ hp, sF_towards _ _ _ _ _, _, rfl, p, wl, al, ln, t, idx, t.goal ++ By.keysR (By.mergeR rl b), addr, g, r, rfl, hS.same sA, upd_same, few, fun H3 dn' s3 ndn' hdn' => ?_⟩
          refine ⟨⟨sA.trans s3, By.mergeR rl b, dn', rfl, ?_, sA.free ndn', ?_, s3 _ _ upd_same, hdn', fm.1⟩, ?_⟩
          · refine ne_of_none (o := .dK (mergeK (rK addr rl) (rK addr b))) ?_ ndn'
            rw [upd_ne ndl, upd_ne ndq]; exact upd_same
          · rw [← rK_merge]
            refine s3 _ _ ?_
            rw [upd_ne ndl, upd_ne ndq]; exact upd_same
          · have e1 : muFirst t.states [some (V.ref p), some (.ref d), some (.ref ln), some (.ref dn')] H3 = t.states - (t.goal ++ By.keysR (By.mergeR rl b)).length := by
              have := s3 _ _ (show (upd (upd (upd H' d (HO.dK (mergeK (rK addr rl) (rK addr b)))) q (HO.lst ((rK addr b).map fun kv => kV kv.1))) ln (HO.lst (nv (t.goal ++ By.keysR (By.mergeR rl b))))) ln = some (.lst (nv (t.goal ++ By.keysR (By.mergeR rl b)))) from upd_same)
              simp only [muFirst, this, List.length_map]
            have e2 : muFirst t.states [some (V.ref p), some (.ref d), some (.ref ln), some (.ref dn)] H' = t.states - (t.goal ++ By.keysR rl).length := by
              simp only [muFirst, hln, List.length_map]
            show muFirst t.states [some (V.ref p), some (.ref d), some (.ref ln), some (.ref dn')] H3 < _
            rw [e1, e2, List.length_append, List.length_append, ekm, List.length_append, kl, kl]
            omega
      · have b0 : b = [] := by
          refine List.length_eq_zero_iff.mp ?_
          refine Classical.byContradiction fun q => c (decide_eq_true ?_)
          rw [rK_len]; omega
        exact ⟨_, rfl, k H' d rl sH nd hd fst (hb.trans b0)⟩
    · rintro σ H' Q' Q'' hQ ⟨v, hv, a, kvs, e, ha, i, j, e1, e2, kk, e3, q⟩
      exact ⟨v, hv, a, kvs, e, ha, i, j, e1, e2, kk, e3, hQ _ _ q⟩
end
end ByH

set_option maxRecDepth 100000
set_option maxHeartbeats 2000000
/-! ByEq: Search.equation, worth. -/
namespace ByH
open PySem PySem.Spec PyProof.Rows L2 ByR
theorem bits {n : Nat} (h : n ≤ 1000000) : n < 2 ^ 9000 := Nat.lt_of_lt_of_le (show n < 2 ^ 20 from Nat.lt_of_le_of_lt h (by decide)) (Nat.pow_le_pow_right (by decide) (by decide))
theorem wK_get (o : By.Outs) (u : Nat) : (valV (wK o) (Sum.inl (u : Int) : Key)).getD (.int 0) = .int ((By.wAt o u : Nat) : Int) := by
  induction o with
  | nil => rfl
  | cons x o ih =>
    unfold By.wAt at ih ⊢
    by_cases e : x.1 = u
    · have h1 : valV (wK (x :: o)) (Sum.inl (u : Int) : Key) = some (V.int (x.2 : Int)) := valV_pos (by show (Sum.inl (x.1 : Int) : Key) = Sum.inl (u : Int); rw [e])
      have h2 : (u == x.1) = true := by simp [e]
      rw [h1, List.lookup_cons, h2]; rfl
    · have h1 : valV (wK (x :: o)) (Sum.inl (u : Int) : Key) = valV (wK o) (Sum.inl (u : Int) : Key) := valV_neg (fun q => e (key_inj.mp q))
      have h2 : (u == x.1) = false := by simpa using fun q : u = x.1 => e q.symm
      rw [h1, ih, List.lookup_cons, h2]
abbrev nEqu : List Str := ["self", "act", "states", "row", "place", "ended", "state"]
theorem scEqu : FnScope nEqu ["self", "act", "states"] (defScope sEqu) := ⟨rfl, rfl, rfl, by decide +kernel, rfl, by decide +kernel, by decide +kernel⟩
def spEqu (C : Adr) : Sp := fun vs H Q _ => ∃ (p wl al pa ls : Addr) (t : Pn08.Task) (idx : List Nat) (addr : Nat → Addr) (g r : Int) (a : Pn08.Act) (o : List Nat), vs = [.ref p, .ref pa, .ref ls] ∧ SeaAt C H p t wl al idx addr g r ∧ ActAt C H pa a ∧ H ls = some (.lst (nv o)) ∧
  o.Nodup ∧ a.at_ ∈ o ∧ o.length ≤ 100 ∧ t.goal.length ≤ 100 ∧ g.natAbs ≤ 1 ∧ r.natAbs ≤ 1 ∧ a.cost ≤ 100 ∧ a.whole ≤ 120 ∧ (∀ u, By.wAt a.outs u ≤ 120) ∧
  ∀ (H' : Hp) (d : Addr), Same H H' → H d = none → H' d = some (.lst (iv (By.equationM g r t.goal o a))) → Q (.ref d) H'
theorem nv_index {o : List Nat} {s : Nat} (hs : s ∈ o) : (nv o)[o.idxOf s]? = some (V.int (s : Int)) ∧ ∀ (m : Nat) (z' : V), m < o.idxOf s → (nv o)[m]? = some z' → eqV z' (V.int (s : Int)) = false := by
  have hi : o.idxOf s < o.length := List.idxOf_lt_length_iff.mpr hs
  refine ⟨?_, fun m z' hm hz => ?_⟩
  · rw [List.getElem?_map, List.getElem?_eq_getElem hi, List.getElem_idxOf hi]; rfl
  · obtain ⟨n, hn, rfl⟩ := nv_at hz
    obtain ⟨hlt, e⟩ := List.getElem?_eq_some_iff.mp hn
    show ((n : Int) == (s : Int)) = false
    refine beq_eq_false_iff_ne.mpr fun q => ?_
    have q' : n = s := by omega
    have : o.idxOf? s = some m ∨ True := .inr trivial
    have := List.not_of_lt_findIdx (p := fun x => x == s) (xs := o) (i := m) hm
    rw [e, q'] at this
    simp at this
theorem ix_nat {n j : Nat} (h : j < n) : ixN n (j : Int) = some j := by
  unfold ixN
  rw [if_pos (by omega), if_pos (by omega)]; simp
theorem iv_set (l : List Int) (j : Nat) (x : Int) : (iv l).set j (.int x) = iv (l.set j x) := by simp [iv]
section
variable {P : Program} {w : World} {K : PySem.W.Frag} {mg : Str → Option Value} {base : Heap} {C : Adr}
theorem sum_le (f : Nat → Nat) (h : ∀ u, f u ≤ 120) : ∀ l : List Nat, ((l.map fun u => (f u : Int)).sum).natAbs ≤ 120 * l.length
  | [] => by simp
  | a :: l => by
    have ih := sum_le f h l
    have := h a
    simp only [List.map_cons, List.sum_cons, List.length_cons]; omega
theorem ok_equ {f : Addr} {fd : FuncData} (F : Fun K "equation" "Search.equation" sEqu f fd) (T : Txt K mg C) : FnOk P w K mg base CX0 1 f fd ["self", "act", "states"] (spEqu C) := by
  refine F.ok scEqu (fun vs H Q E h => ?_) (fun cdv A outer s H vs Q E hr h => ?_)
  · obtain ⟨p, wl, al, pa, ls, t, idx, addr, g, r, a, o, rfl, _⟩ := h
    rfl
  · obtain ⟨p, wl, al, pa, ls, t, idx, addr, g, r, a, o, rfl, hS, hA, hls, nd, hs, hz, hgz, hg, hrr, hc, hw, hwa, k⟩ := h
    have hu := hu_of hr
    refine ⟨_, pss_cons (ps_setLc (i := 3) (own := [("state", 6)]) (tt := tYes) (g := gName 6) (te := tOp (rI0 fun i j => .int (i - j)) (tC (.int 0)) (tDGet2 (tFld K (tVar 1) "weights") (tVar 6) (tC (.int 0)))) rfl scEqu.nd rfl rfl (sw_true rfl rfl rfl (by decide +kernel)) (pi_list (pv 2))
        (blkOk_by (own := [("state", 6)]) (N := nEqu) (sc := defScope sEqu) (by decide +kernel)) (fun _ _ _ _ _ => pg_name (i := 6) scEqu.nd rfl (Or.inl rfl)) (fun _ _ _ _ _ => pts_nil)
        (fun _ _ _ _ _ => pe_op op_sub pe_int (pe_dget2 hu (pe_fld (pv 1) rfl) (pv 6) pe_int ⟨rfl, rfl, rfl, rfl⟩)))
      (pss_cons (ps_set (i := 4) scEqu.nd rfl (Or.inl rfl) (pe_bm PySem.F.plainAttrs_list PySem.F.slot_list_index PySem.F.type_list_index mt_index (pv 2) (pa_cons (pe_fld (pv 1) rfl) pa_nil)))
      (pss_cons (ps_asg (pe_op op_add (pe_ix ix_list (pv 3) (pv 4) (fun _ _ => rfl)) (pe_fld (pv 1) rfl)) (pg_sub (pv 3) (pv 4) set_list))
      (pss_cons (ps_set (i := 5) scEqu.nd rfl (Or.inl rfl) (pe_callB (cr_sum rfl) (by rfl) T.sum (by decide +kernel) (pa_cons (pe_lc (own := [("state", 6)]) (tt := tYes) (g := gName 6) (te := tDGet2 (tFld K (tVar 1) "weights") (tVar 6) (tC (.int 0))) rfl scEqu.nd (pi_list (pe_fld (pv 0) rfl))
        (blkOk_by (own := [("state", 6)]) (N := nEqu) (sc := defScope sEqu) (by decide +kernel)) (fun _ _ _ _ _ => pg_name (i := 6) scEqu.nd rfl (Or.inl rfl)) (fun _ _ _ _ _ => pts_nil)
        (fun _ _ _ _ _ => pe_dget2 hu (pe_fld (pv 1) rfl) (pv 6) pe_int ⟨rfl, rfl, rfl, rfl⟩)) pa_nil)))
      (pss_cons (ps_expr (pe_bm PySem.F.plainAttrs_list PySem.F.slot_list_append PySem.F.type_list_append mt_append (pv 3) (pa_cons (pe_op op_add (pe_op op_mulW (pe_fld (pv 0) rfl) (pv 5)) (pe_op op_mulW (pe_op op_mulW (pe_fld (pv 0) rfl) (pe_fld (pv 1) rfl)) (pe_fld (pv 1) rfl))) pa_nil)))
      (pss_one (ps_ret (pv 3))))))), ?_⟩
    obtain ⟨dxS, hp⟩ := hS.ins
    obtain ⟨nn, dx, dw, h1, h2⟩ := id hA
    -- row
    refine ⟨_, rfl, ls, rfl, ⟨_, SqL.of hls⟩, fun D nD => lc_list (K := K) (a := ls) (xs := nv o) (fun i H' => Same H H' ∧ H' D = some (.lst ((iv (o.map fun u => 0 - (By.wAt a.outs u : Int))).take i))) ⟨same_new nD, upd_same⟩ (fun i H' _ q => SqL.of (q.1 _ _ hls)) ?_ ?_⟩
    · rintro i y H' hi ⟨s1, hD⟩
      obtain ⟨n, hn, rfl⟩ := nv_at hi
      refine ⟨rfl, _, rfl, pa, C.a, dx, _, _, rfl, s1 _ _ h1, T.clA, T.aWeights, aF_weights _ _ _, dw, rfl, .inl ⟨_, .inl (s1 _ _ h2)⟩, _, rfl, _, DGet.k (k := Sum.inl (n : Int)) (s1 _ _ h2), 0, _, rfl, wK_get _ _, ?_⟩
      refine lc_more nD s1 hD (Same.refl _) ?_ (by simp [iv]; omega)
      simp [iv, hn]
    · rintro H1 ⟨s1, hD⟩
      have el : (nv o).length = (iv (o.map fun u => 0 - (By.wAt a.outs u : Int))).length := by simp [iv]
      rw [el, List.take_length] at hD
      generalize hrow : (o.map fun u => 0 - (By.wAt a.outs u : Int)) = row at hD
      have lrow : row.length = o.length := by rw [← hrow]; simp
      have hix := nv_index hs
      have hij : o.idxOf a.at_ < o.length := List.idxOf_lt_length_iff.mpr hs
      -- place
      refine ⟨_, rfl, .inl ⟨rfl, _, SqL.of (s1 _ _ hls)⟩, _, rfl, pa, C.a, dx, _, _, rfl, s1 _ _ h1, T.clA, T.aState, aF_state _ _ _, ls, nv o, _, o.idxOf a.at_, _, rfl, rfl, SqL.of (s1 _ _ hls), rfl, nv_flat _, hix.1, (by show ((a.at_ : Int) == (a.at_ : Int)) = true; simp), hix.2, ?_⟩
      -- row[place] = ..
      refine ⟨_, rfl, _, rfl, D, _, _, .int (row.getD (o.idxOf a.at_) 0), rfl, rfl, SqL.of hD, iv_at (by omega), _, rfl, pa, C.a, dx, _, _, rfl, s1 _ _ h1, T.clA, T.aWhole, aF_whole _ _ _, _, _, rfl, rfl, _, rfl, _, rfl, D, _, _, _, rfl, rfl, hD, ix_nat (by rw [List.length_map]; omega), ?_⟩
      rw [iv_set]
      generalize hrow2 : row.set (o.idxOf a.at_) (row.getD (o.idxOf a.at_) 0 + (a.whole : Int)) = row2
      have lrow2 : row2.length = o.length := by rw [← hrow2]; simp [lrow]
      have s2 : Same H (upd H1 D (.lst (iv row2))) := same_upd s1 nD
      -- ended
      refine ⟨_, rfl, p, C.s, dxS, _, _, rfl, s2 _ _ hp, T.clS, T.sWanted, sF_wanted _ _ _ _ _, wl, rfl, ⟨_, SqL.of (s2 _ _ hS.wanted)⟩, fun D2 nD2 => lc_list (K := K) (a := wl) (xs := nv t.goal)
        (fun i H' => Same (upd H1 D (.lst (iv row2))) H' ∧ H' D2 = some (.lst ((iv (t.goal.map fun u => (By.wAt a.outs u : Int))).take i))) ⟨same_new nD2, upd_same⟩ (fun i H' _ q => SqL.of (q.1 _ _ (s2 _ _ hS.wanted))) ?_ ?_⟩
      · rintro i y H' hi ⟨s3, hD2⟩
        obtain ⟨n, hn, rfl⟩ := nv_at hi
        refine ⟨rfl, _, rfl, pa, C.a, dx, _, _, rfl, s3 _ _ (s2 _ _ h1), T.clA, T.aWeights, aF_weights _ _ _, dw, rfl, .inl ⟨_, .inl (s3 _ _ (s2 _ _ h2))⟩, _, rfl, _, DGet.k (k := Sum.inl (n : Int)) (s3 _ _ (s2 _ _ h2)), ?_⟩
        rw [wK_get]
        refine lc_more nD2 s3 hD2 (Same.refl _) ?_ (by simp [iv]; omega)
        simp [iv, hn]
      · rintro H2 ⟨s3, hD2⟩
        have el2 : (nv t.goal).length = (iv (t.goal.map fun u => (By.wAt a.outs u : Int))).length := by simp [iv]
        rw [el2, List.take_length] at hD2
        refine ⟨D2, _, rfl, SqL.of hD2, ?_⟩
        have s4 := s2.trans s3
        have hD4 : H2 D = some (.lst (iv row2)) := s3 _ _ upd_same
        have bsum := sum_le (By.wAt a.outs) hwa t.goal
        have b1 : CMulW g (t.goal.map fun u => (By.wAt a.outs u : Int)).sum := mulW (bits (by omega)) (bits (by omega))
        have b2 : CMulW r (a.cost : Int) := mulW (bits (by omega)) (bits (by omega))
        have b3 : CMulW (r * (a.cost : Int)) (a.whole : Int) := mulW (bits (by
          rw [Int.natAbs_mul]
          exact Nat.le_trans (Nat.mul_le_mul hrr (show ((a.cost : Int)).natAbs ≤ 100 by omega)) (by decide))) (bits (by omega))
        refine ⟨_, rfl, .inl ⟨rfl, _, SqL.of hD4⟩, _, rfl, p, C.s, dxS, _, _, rfl, s4 _ _ hp, T.clS, T.sGoal, sF_goal _ _ _ _ _, _, rfl, _, _, rfl, rfl, b1, _, rfl, p, C.s, dxS, _, _, rfl, s4 _ _ hp, T.clS, T.sRate, sF_rate _ _ _ _ _, _, rfl, pa, C.a, dx, _, _, rfl, s4 _ _ h1, T.clA, T.aPrice, aF_price _ _ _, _, _, rfl, rfl, b2,
          _, rfl, pa, C.a, dx, _, _, rfl, s4 _ _ h1, T.clA, T.aWhole, aF_whole _ _ _, _, _, rfl, rfl, b3, _, _, rfl, rfl, D, _, _, rfl, rfl, hD4, ?_, ?_⟩
        · rw [List.length_map, lrow2]; exact small (by omega)
        · refine ⟨_, rfl, k _ D (same_upd s4 nD) nD ?_⟩
          rw [upd_same]
          unfold By.equationM
          rw [hrow, hrow2]
          simp [iv]
end
end ByH

set_option maxRecDepth 100000
set_option maxHeartbeats 2000000
/-! ByBe: Search.worth, better_acts. -/
namespace ByH
open PySem PySem.Spec PyProof.Rows L2 ByR
abbrev nWorth : List Str := ["self", "act", "values", "later", "state", "weight"]
theorem scWorth : FnScope nWorth ["self", "act", "values"] (defScope sWorth) := ⟨rfl, rfl, rfl, by decide +kernel, rfl, by decide +kernel, by decide +kernel⟩
/-- sizes of an act and of values -/
structure ActSz (a : Pn08.Act) (n : Nat) : Prop where
  len : a.outs.length ≤ 100
  lt : ∀ x ∈ a.outs, x.1 < n
  wt : ∀ x ∈ a.outs, x.2 ≤ 120
  cost : a.cost ≤ 100
  whole : a.whole ≤ 120
  at_ : a.at_ < n
structure ValSz (tops : List Int) (bottom : Int) (n : Nat) : Prop where
  len : tops.length = n
  tops : ∀ s, (tops.getD s 0).natAbs < 2 ^ 7000
  bottom : bottom.natAbs < 2 ^ 6000
def spWorth (C : Adr) : Sp := fun vs H Q _ => ∃ (p wl al pa pv : Addr) (t : Pn08.Task) (idx : List Nat) (addr : Nat → Addr) (g r : Int) (a : Pn08.Act) (tops : List Int) (bottom : Int) (n : Nat), vs = [.ref p, .ref pa, .ref pv] ∧ SeaAt C H p t wl al idx addr g r ∧ ActAt C H pa a ∧ ValAt C H pv tops bottom ∧
  ActSz a n ∧ ValSz tops bottom n ∧ r.natAbs ≤ 1 ∧ ∀ (H' : Hp), Same H H' → Q (.int (By.worthM r tops bottom a)) H'
theorem b7 {n : Nat} (h : n < 2 ^ 7000) : n < 2 ^ 9000 := Nat.lt_of_lt_of_le h (Nat.pow_le_pow_right (by decide) (by decide))
theorem b6 {n : Nat} (h : n < 2 ^ 6000) : n < 2 ^ 9000 := Nat.lt_of_lt_of_le h (Nat.pow_le_pow_right (by decide) (by decide))
section
variable {P : Program} {w : World} {K : PySem.W.Frag} {mg : Str → Option Value} {base : Heap} {C : Adr}
theorem ok_worth {f : Addr} {fd : FuncData} (F : Fun K "worth" "Search.worth" sWorth f fd) (T : Txt K mg C) : FnOk P w K mg base CX0 1 f fd ["self", "act", "values"] (spWorth C) := by
  refine F.ok scWorth (fun vs H Q E h => ?_) (fun cdv A outer s H vs Q E hr h => ?_)
  · obtain ⟨p, wl, al, pa, pv, t, idx, addr, g, r, a, tops, bottom, n, rfl, _⟩ := h
    rfl
  · obtain ⟨p, wl, al, pa, pvv, t, idx, addr, g, r, a, tops, bottom, n, rfl, hS, hA, hV, za, zv, hrr, k⟩ := h
    refine ⟨_, pss_cons (ps_set (i := 3) scWorth.nd rfl (Or.inl rfl) (pe_callB (cr_sum rfl) (by rfl) T.sum (by decide +kernel) (pa_cons (pe_lock (pe_lc (own := [("state", 4), ("weight", 5)]) (tt := tYes) (g := gTup K 2 (gCons (gName 4) (gCons (gName 5) gNil)))
        (te := tOp (rI CMulW fun i j => .int (i * j)) (tVar 5) (tOp (rIxL K) (tFld K (tVar 2) "tops") (tVar 4))) rfl scWorth.nd (pi_items (pe_fld (pv 1) rfl))
        (blkOk_by (own := [("state", 4), ("weight", 5)]) (N := nWorth) (sc := defScope sWorth) (by decide +kernel)) (fun _ _ _ _ _ => pg_tup rfl (pgs_cons (pg_name (i := 4) scWorth.nd rfl (Or.inl rfl)) (pgs_cons (pg_name (i := 5) scWorth.nd rfl (Or.inl rfl)) pgs_nil))) (fun _ _ _ _ _ => pts_nil)
        (fun _ _ _ _ _ => pe_op op_mulW (pv 5) (pe_ix ix_list (pe_fld (pv 2) rfl) (pv 4) (fun _ _ => rfl))))) pa_nil)))
      (pss_one (ps_ret (pe_op op_add (pv 3) (pe_op op_mulW (pe_op op_mulW (pe_op op_mulW (pe_fld (pv 0) rfl) (pe_fld (pv 1) rfl)) (pe_fld (pv 1) rfl)) (pe_fld (pv 2) rfl))))), ?_⟩
    obtain ⟨dxS, hp⟩ := hS.ins
    obtain ⟨nn, dx, dw, h1, h2⟩ := id hA
    obtain ⟨dxV, tl, h3, h4⟩ := id hV
    have n1 : pa ≠ dw := ne_of h1 h2 (by intro z; cases z)
    have n3 : pvv ≠ dw := ne_of h3 h2 (by intro z; cases z)
    have n4 : tl ≠ dw := ne_of h4 h2 (by intro z; cases z)
    refine ⟨dw, _, h2, True.intro, fun od => ?_⟩
    generalize hys : (a.outs.map fun x => (x.2 : Int) * tops.getD x.1 0) = ys
    have lys : ys.length = a.outs.length := by rw [← hys]; simp
    refine ⟨_, rfl, pa, C.a, dx, _, _, rfl, lock_sub h1 n1, T.clA, T.aWeights, aF_weights _ _ _, dw, od, wK a.outs, rfl, upd_same, fun D nD => lc_it walk_items
      (fun i H' => Same (upd H dw (.frz od (.dK (wK a.outs)))) H' ∧ H' D = some (.lst ((iv ys).take i))) ⟨same_new nD, upd_same⟩ (fun i H' _ q => q.1 _ _ upd_same) ?_ ?_⟩
    · rintro i x H2 H3 hi ⟨s2, hD⟩ ⟨T', y, y', rfl, nT, rfl, e1, e2⟩
      rw [wK_len] at hi
      have ei : a.outs[i]? = some a.outs[i] := List.getElem?_eq_getElem hi
      have am : a.outs[i] ∈ a.outs := List.getElem_mem hi
      have e1' : (wK a.outs)[i]?.map (fun kv => kV kv.1) = some y := e1
      have e2' : (wK a.outs)[i]?.map Prod.snd = some y' := e2
      rw [wK_at ei] at e1' e2'
      cases e1'
      cases e2'
      have s3 : Same H2 (upd H2 T' (.tup [V.int (a.outs[i].1 : Int), V.int (a.outs[i].2 : Int)])) := same_new nT
      refine ⟨T', _, rfl, SqT.of upd_same, rfl, _, _, rfl, _, _, rfl, rfl, rfl, ?_⟩
      refine ⟨_, rfl, _, rfl, pvv, C.v, dxV, _, _, rfl, s3 _ _ (s2 _ _ (lock_sub h3 n3)), T.clV, T.vTops, vF_tops _ _, _, rfl, tl, _, _, .int (tops.getD a.outs[i].1 0), rfl, rfl, SqL.of (s3 _ _ (s2 _ _ (lock_sub h4 n4))), iv_at (by rw [zv.len]; exact za.lt _ am), _, _, rfl, rfl, mulW (bits (by have := za.wt _ am; omega)) (b7 (zv.tops _)), ?_⟩
      refine lc_more nD s2 hD s3 ?_ (by have := za.len; simp [iv]; omega)
      simp [iv, ← hys, ei]
    · rintro H2 ⟨s2, hD⟩
      have e1 : (wK a.outs).length = (iv ys).length := by rw [wK_len]; simp [iv, lys]
      rw [e1, List.take_length] at hD
      have nDd : D ≠ dw := fun e => by rw [e, upd_same] at nD; cases nD
      have s5 : Same H (upd H2 dw (.dK (wK a.outs))) := lock_same h2 s2
      refine ⟨s2 _ _ upd_same, D, ys, rfl, SqL.of (by rw [upd_ne nDd]; exact hD), ?_⟩
      have b2 : CMulW r (a.cost : Int) := mulW (bits (by omega)) (bits (by have := za.cost; omega))
      have q1 : (r * (a.cost : Int)).natAbs ≤ 100 := by
        rw [Int.natAbs_mul]
        exact Nat.le_trans (Nat.mul_le_mul hrr (show ((a.cost : Int)).natAbs ≤ 100 by have := za.cost; omega)) (by decide)
      have b3 : CMulW (r * (a.cost : Int)) (a.whole : Int) := mulW (bits (by omega)) (bits (by have := za.whole; omega))
      have q2 : (r * (a.cost : Int) * (a.whole : Int)).natAbs ≤ 12000 := by
        rw [Int.natAbs_mul]
        exact Nat.le_trans (Nat.mul_le_mul q1 (show ((a.whole : Int)).natAbs ≤ 120 by have := za.whole; omega)) (by decide)
      have b4 : CMulW (r * (a.cost : Int) * (a.whole : Int)) bottom := mulW (bits (by omega)) (b6 zv.bottom)
      refine ⟨_, rfl, _, rfl, p, C.s, dxS, _, _, rfl, s5 _ _ hp, T.clS, T.sRate, sF_rate _ _ _ _ _, _, rfl, pa, C.a, dx, _, _, rfl, s5 _ _ h1, T.clA, T.aPrice, aF_price _ _ _, _, _, rfl, rfl, b2, _, rfl, pa, C.a, dx, _, _, rfl, s5 _ _ h1, T.clA, T.aWhole, aF_whole _ _ _, _, _, rfl, rfl, b3,
        _, rfl, pvv, C.v, dxV, _, _, rfl, s5 _ _ h3, T.clV, T.vBottom, vF_bottom _ _, _, _, rfl, rfl, b4, _, _, rfl, rfl, ?_⟩
      have := k _ s5
      unfold By.worthM at this
      rw [hys] at this
      exact this
/-! ### better_acts -/
abbrev nBet : List Str := ["self", "rule", "values", "better", "act"]
theorem scBet : FnScope nBet ["self", "rule", "values"] (defScope sBet) := ⟨rfl, rfl, rfl, by decide +kernel, rfl, by decide +kernel, by decide +kernel⟩
def spBet (C : Adr) : Sp := fun vs H Q _ => ∃ (p wl al dr pv : Addr) (t : Pn08.Task) (idx : List Nat) (addr : Nat → Addr) (g r : Int) (rl : By.RL) (tops : List Int) (bottom : Int), vs = [.ref p, .ref dr, .ref pv] ∧ SeaAt C H p t wl al idx addr g r ∧ H dr = some (.dK (rK addr rl)) ∧ ValAt C H pv tops bottom ∧
  idx.length ≤ 100 ∧ (∀ k ∈ idx, ActSz (t.act k) t.states) ∧ ValSz tops bottom t.states ∧ r.natAbs ≤ 1 ∧
  ∀ (H' : Hp) (d : Addr), Same H H' → H d = none → H' d = some (.dK (rK addr (By.betterM t r tops bottom rl idx))) → Q (.ref d) H'
theorem bet_len {t : Pn08.Task} {r : Int} {tops : List Int} {bottom : Int} {rl : By.RL} : ∀ (idx : List Nat) (f : By.RL), (idx.foldl (By.betStep t r tops bottom rl) f).length ≤ f.length + idx.length
  | [], _ => Nat.le_refl _
  | k :: idx, f => by
    rw [List.foldl_cons]
    refine Nat.le_trans (bet_len idx _) ?_
    have : (By.betStep t r tops bottom rl f k).length ≤ f.length + 1 := by
      unfold By.betStep By.putR
      split
      · split <;> simp
      · omega
    simp only [List.length_cons]; omega
theorem ok_bet {f fW : Addr} {fd fdW : FuncData} (F : Fun K "better_acts" "Search.better_acts" sBet f fd) (FW : Fun K "worth" "Search.worth" sWorth fW fdW) (bW : Binds K fdW ["self", "act", "values"] []) (mW : Meth K C.s "worth" fW) (T : Txt K mg C) :
    FnOk P w K mg base CX0 2 f fd ["self", "rule", "values"] (spBet C) := by
  have GW : FnOk P w K mg base CX0 1 fW fdW ["self", "act", "values"] (spWorth C) := ok_worth FW T
  refine F.ok scBet (fun vs H Q E h => ?_) (fun cdv A outer s H vs Q E hr h => ?_)
  · obtain ⟨p, wl, al, dr, pv, t, idx, addr, g, r, rl, tops, bottom, rfl, _⟩ := h
    rfl
  · obtain ⟨p, wl, al, dr, pvv, t, idx, addr, g, r, rl, tops, bottom, rfl, hS, hdr, hV, hlen, za, zv, hrr, k⟩ := h
    have hu := hu_of hr
    refine ⟨_, pss_cons (ps_set (i := 3) scBet.nd rfl (Or.inl rfl) pe_dnewK) (pss_cons (ps_for PassesOwn.never rfl (pi_list (pe_fld (pv 0) rfl)) (pg_name (i := 4) scBet.nd rfl (Or.inl rfl))
        (pss_one (ps_if (PW.pt (pw_and (pt_cmp (pc_din hu (pe_fld (pv 4) rfl) (pv 1))) (pw_and1 (pt_cmpR op_gt (pe_meth (pv 0) T.clS mW GW hr bW .nil pass0 (pa_cons (pv 4) (pa_cons (pv 2) pa_nil))) (pe_op op_mulW (pe_fld (pv 4) rfl) (pe_ix ix_list (pe_fld (pv 2) rfl) (pe_fld (pv 4) rfl) (fun _ _ => rfl))) (nomark _)))))
          (pss_one (ps_dput hu (pv 3) (pe_fld (pv 4) rfl) (pv 4) rfl)) pss_nil)))
      (pss_one (ps_ret (pv 3)))), ?_⟩
    intro d nd
    obtain ⟨dxS, hp⟩ := hS.ins
    obtain ⟨dxV, tl, h3, h4⟩ := id hV
    have s0 : Same H (upd H d (.dK [])) := same_new nd
    refine ⟨_, rfl, p, C.s, dxS, _, _, rfl, s0 _ _ hp, T.clS, T.sActs, sF_acts _ _ _ _ _, al, rfl, ⟨_, SqL.of (s0 _ _ hS.list)⟩, for_list (K := K) (a := al) (xs := idx.map fun k => V.ref (addr k))
      (fun i σ H' => Same H H' ∧ ∃ v : Option V, σ = [some (.ref p), some (.ref dr), some (.ref pvv), some (.ref d), v] ∧ H' d = some (.dK (rK addr ((idx.take i).foldl (By.betStep t r tops bottom rl) []))))
      ⟨s0, none, rfl, upd_same⟩ (fun i σ H' _ q => SqL.of (q.1 _ _ hS.list)) ?_ ?_⟩
    · rintro i y σ H' hi ⟨s1, v, rfl, hd⟩
      obtain ⟨kk, hk, rfl⟩ := ref_at hi
      have km : kk ∈ idx := List.mem_of_getElem? hk
      have hA := (hS.acts kk km).same s1
      obtain ⟨nn, dx, dw, h1, h2⟩ := id hA
      have est : (idx.take (i + 1)).foldl (By.betStep t r tops bottom rl) [] = By.betStep t r tops bottom rl ((idx.take i).foldl (By.betStep t r tops bottom rl) []) kk := by
        rw [take_succ hk, List.foldl_append]; rfl
      have hlen2 : ((idx.take i).foldl (By.betStep t r tops bottom rl) []).length ≤ 100 := by
        have := bet_len (t := t) (r := r) (tops := tops) (bottom := bottom) (rl := rl) (idx.take i) []
        rw [List.length_take] at this
        simp only [List.length_nil] at *
        omega
      generalize (idx.take i).foldl (By.betStep t r tops bottom rl) [] = fnd at hd est hlen2
      have nxt : ∀ (H4 : Hp) (u : By.RL), Same H' H4 → By.betStep t r tops bottom rl fnd kk = u → H4 d = some (.dK (rK addr u)) → Same H H4 ∧ ∃ v : Option V, ([some (V.ref p), some (.ref dr), some (.ref pvv), some (.ref d), some (.ref (addr kk))] : L2.St) = [some (.ref p), some (.ref dr), some (.ref pvv), some (.ref d), v] ∧ H4 d = some (.dK (rK addr ((idx.take (i + 1)).foldl (By.betStep t r tops bottom rl) []))) :=
        fun H4 u s4 eu h4 => ⟨s1.trans s4, _, rfl, by rw [est, eu]; exact h4⟩
      refine ⟨_, rfl, addr kk, C.a, dx, _, _, rfl, h1, T.clA, T.aState, aF_state _ _ _, _, rfl, dr, _, rfl, DGet.k (k := Sum.inl ((t.act kk).at_ : Int)) (s1 _ _ hdr), _, rfl, ?_⟩
      rw [rK_some]
      refine ite2 (fun c1 => ?_) (fun c1 => ?_)
      · refine ⟨_, rfl, p, dxS, _, rfl, s1 _ _ hp, sF_worth _ _ _ _ _, _, rfl, _, rfl, p, wl, al, addr kk, pvv, t, idx, addr, g, r, t.act kk, tops, bottom, t.states, rfl, hS.same s1, hA, hV.same s1, za kk km, zv, hrr, fun H2 s2 => ?_⟩
        have zk := za kk km
        refine ⟨_, rfl, addr kk, C.a, dx, _, _, rfl, s2 _ _ h1, T.clA, T.aWhole, aF_whole _ _ _, _, rfl, pvv, C.v, dxV, _, _, rfl, s2 _ _ (s1 _ _ h3), T.clV, T.vTops, vF_tops _ _, _, rfl, addr kk, C.a, dx, _, _, rfl, s2 _ _ h1, T.clA, T.aState, aF_state _ _ _, tl, _, _, .int (tops.getD (t.act kk).at_ 0), rfl, rfl, SqL.of (s2 _ _ (s1 _ _ h4)), iv_at (by rw [zv.len]; exact zk.at_),
          _, _, rfl, rfl, mulW (bits (by have := zk.whole; omega)) (b7 (zv.tops _)), _, _, rfl, rfl, _, rfl, ?_⟩
        refine ite2 (fun c2 => ?_) (fun c2 => ?_)
        · refine ⟨_, rfl, _, rfl, _, rfl, addr kk, C.a, dx, _, _, rfl, s2 _ _ h1, T.clA, T.aState, aF_state _ _ _, d, _, rfl, DPut.k (k := Sum.inl ((t.act kk).at_ : Int)) (s2 _ _ hd) (by rw [rK_len]; exact small (by omega)), ?_⟩
          have eu : By.betStep t r tops bottom rl fnd kk = By.putR fnd (t.act kk).at_ kk := by
            unfold By.betStep By.betB
            have c2' : decide (((t.act kk).whole : Int) * tops.getD (t.act kk).at_ 0 < By.worthM r tops bottom (t.act kk)) = true := c2
            rw [c1, c2']; rfl
          refine ⟨?_, _, rfl, ?_⟩
          · exact fun b o e => by
              have nb : b ≠ d := ne_of_none e nd
              rw [upd_ne nb]; exact s2 _ _ (s1 _ _ e)
          · rw [est, eu, upd_same, rK_put]
        · refine nxt H2 fnd s2 ?_ (s2 _ _ hd)
          unfold By.betStep By.betB
          have c2' : decide (((t.act kk).whole : Int) * tops.getD (t.act kk).at_ 0 < By.worthM r tops bottom (t.act kk)) = false := by simpa using c2
          rw [c2', Bool.and_false]; rfl
      · have c1' : By.inR rl (t.act kk).at_ = false := by simpa using c1
        refine nxt H' fnd (Same.refl _) ?_ hd
        unfold By.betStep
        rw [c1']; rfl
    · rintro σ H' ⟨s1, v, rfl, hd⟩
      rw [List.length_map, List.take_length] at hd
      exact ⟨_, rfl, k H' d s1 nd hd⟩
end
end ByH

set_option maxRecDepth 100000
set_option maxHeartbeats 2000000
/-! ByVa: Search.values_of. -/
namespace ByH
open PySem PySem.Spec PyProof.Rows L2 ByR
theorem rows_fit {t : Pn08.Task} (z : By.Sz t) {f : Pn08.Rule} (vf : By.Valid t f) (pf : By.Proper t f) {goal rate : Int} (hg : goal.natAbs ≤ 1) (hr : rate.natAbs ≤ 1) {o : List Nat} (d : By.Dom f o) {v : Nat → Rat} (iv : By.IsVal t f goal rate v) (oN : o.length ≤ 6) :
    ∀ c, c ≤ (By.rowsM t f goal rate o).length → RowsFit (o.length + 1) ((List.range c).foldl By.elimM (By.rowsM t f goal rate o)) := by
  obtain ⟨h, hp, hN, E⟩ := By.rows_elim z vf pf hg hr d iv
  have lr : (By.rowsM t f goal rate o).length = o.length := by unfold By.rowsM; simp
  intro c hc r hr'
  rw [lr] at hc
  have EN := E.upto hp hN c hc
  obtain ⟨i, hi, rfl⟩ := List.mem_iff_getElem.mp hr'
  have hi' : i < o.length := by rw [EN.len] at hi; exact hi
  have e : ((List.range c).foldl By.elimM (By.rowsM t f goal rate o)).getD i [] = ((List.range c).foldl By.elimM (By.rowsM t f goal rate o))[i] := by rw [List.getD_eq_getElem?_getD, List.getElem?_eq_getElem hi]; rfl
  have rl := EN.row i hi'
  rw [e] at rl
  refine ⟨rl, fun x hx => ?_⟩
  obtain ⟨j, hj, rfl⟩ := List.mem_iff_getElem.mp hx
  have ft := EN.fits i j hi' (by omega)
  rw [e, List.getD_eq_getElem?_getD, List.getElem?_eq_getElem hj] at ft
  refine Nat.lt_of_lt_of_le ft (Nat.pow_le_pow_right (by decide) ?_)
  have := By.bits6 c (by omega)
  omega
abbrev nVals : List Str := ["self", "rule", "states", "rows", "bottom", "place", "row", "tops", "state"]
theorem scVals : FnScope nVals ["self", "rule"] (defScope sVals) := ⟨rfl, rfl, rfl, by decide +kernel, rfl, by decide +kernel, by decide +kernel⟩
def spVals (C : Adr) : Sp := fun vs H Q _ => ∃ (p wl al dr : Addr) (t : Pn08.Task) (idx : List Nat) (addr : Nat → Addr) (g r : Int) (rl : By.RL) (v : Nat → Rat), vs = [.ref p, .ref dr] ∧ SeaAt C H p t wl al idx addr g r ∧ H dr = some (.dK (rK addr rl)) ∧
  By.Sz t ∧ (∀ k ∈ idx, k < t.acts.length) ∧ By.Valid t (By.ruleL t rl) ∧ By.Proper t (By.ruleL t rl) ∧ (By.keysR rl).Nodup ∧ (∀ x ∈ rl, x.2 ∈ idx ∧ (t.act x.2).at_ = x.1) ∧ By.IsVal t (By.ruleL t rl) g r v ∧ g.natAbs ≤ 1 ∧ r.natAbs ≤ 1 ∧ (∀ k ∈ idx, ∀ u, By.wAt (t.act k).outs u ≤ 120) ∧
  ∀ (H' : Hp) (q : Addr) (tops : List Int) (bottom : Int), Same H H' → ValAt C H' q tops bottom → By.ValOk t.states v tops bottom → Q (.ref q) H'
section
variable {P : Program} {w : World} {K : PySem.W.Frag} {mg : Str → Option Value} {base : Heap} {C : Adr}
theorem ok_vals {f fE fS fW fV : Addr} {fd fdE fdS fdW fdV : FuncData} (F : Fun K "values_of" "Search.values_of" sVals f fd) (FE : Fun K "equation" "Search.equation" sEqu fE fdE) (bE : Binds K fdE ["self", "act", "states"] []) (mE : Meth K C.s "equation" fE)
    (FS : Fun K "solved" "solved" sSolved fS fdS) (bS : Binds K fdS ["rows"] []) (gS : mg "solved" = some (.ref fS)) (kS : PySem.W.keepIn K (.ref fS) = true)
    (FW : Fun K "without" "without" sWithout fW fdW) (bW : Binds K fdW ["row", "chosen", "place"] []) (gW : mg "without" = some (.ref fW)) (kW : PySem.W.keepIn K (.ref fW) = true)
    (FV : Fun K "__init__" "Values.__init__" sValInit fV fdV) (bV : Binds K fdV ["self", "tops", "bottom"] []) (MV : Mk K C.v fV) (T : Txt K mg C) : FnOk P w K mg base CX0 3 f fd ["self", "rule"] (spVals C) := by
  have GE : FnOk P w K mg base CX0 1 fE fdE ["self", "act", "states"] (spEqu C) := ok_equ FE T
  have GS : FnOk P w K mg base CX0 2 fS fdS ["rows"] spSolved := ok_solved FS FW bW gW kW T.zip T.enum T.range T.len
  have GV : FnOk P w K mg base CX0 1 fV fdV ["self", "tops", "bottom"] (spValInit C) := ok_valInit FV T
  refine F.ok scVals (fun vs H Q E h => ?_) (fun cdv A outer s H vs Q E hr h => ?_)
  · obtain ⟨p, wl, al, dr, t, idx, addr, g, r, rl, v, rfl, _⟩ := h
    rfl
  · obtain ⟨p, wl, al, dr, t, idx, addr, g, r, rl, v, rfl, hS, hdr, z, hi, vf, pf, knd, each, ivl, hg, hrr, hwa, k⟩ := h
    have hu := hu_of hr
    have hr1 : Room 1 _ := hr.mono (by decide)
    refine ⟨_, pss_cons (ps_set (i := 2) scVals.nd rfl (Or.inr rfl) (pe_callB (call_sortedDI rfl) (by rfl) T.sorted (by decide +kernel) (pa_cons (pv 1) pa_nil)))
      (pss_cons (ps_set (i := 3) scVals.nd rfl (Or.inl rfl) (pe_call GS hr rfl gS kS bS .nil pass0 (pa_cons (pe_lc (own := [("state", 8)]) (tt := tYes) (g := gName 8) (te := tMeth C.s "equation" (spEqu C) [] E0 (tVar 0) (tCons (tDGet (tVar 1) (tVar 8)) (tCons (tVar 2) tNil))) rfl scVals.nd (pi_list (pv 2))
        (blkOk_by (own := [("state", 8)]) (N := nVals) (sc := defScope sVals) (by decide +kernel)) (fun _ _ _ _ _ => pg_name (i := 8) scVals.nd rfl (Or.inl rfl)) (fun _ _ _ _ _ => pts_nil)
        (fun _ _ _ _ _ => pe_meth (pv 0) T.clS mE GE hr1 bE .nil pass0 (pa_cons (pe_dget hu (pv 1) (pv 8) (fun _ _ => rfl)) (pa_cons (pv 2) pa_nil)))) pa_nil)))
      (pss_cons (ps_set (i := 4) scVals.nd rfl (Or.inl rfl) pe_int)
      (pss_cons (ps_for PassesOwn.never rfl (pi_enum (by rfl) T.enum (pa_cons (pv 3) pa_nil)) (pg_tup rfl (pgs_cons (pg_name (i := 5) scVals.nd rfl (Or.inl rfl)) (pgs_cons (pg_name (i := 6) scVals.nd rfl (Or.inl rfl)) pgs_nil)))
        (pss_one (ps_set (i := 4) scVals.nd rfl (Or.inl rfl) (pe_op op_mulW (pv 4) (pe_ix ix_list (pv 6) (pv 5) (fun _ _ => rfl))))))
      (pss_cons (ps_set (i := 7) scVals.nd rfl (Or.inl rfl) (pe_op op_rep (pe_lst (pa_cons pe_int pa_nil)) (pe_fld (pv 0) rfl)))
      (pss_cons (ps_for PassesOwn.never rfl (pi_list (pe_fld (pv 0) rfl)) (pg_name (i := 8) scVals.nd rfl (Or.inl rfl))
        (pss_one (ps_asg (pe_op op_mulW (pe_fld (pv 0) rfl) (pv 4)) (pg_sub (pv 7) (pv 8) set_list))))
      (pss_cons (ps_for PassesOwn.never rfl (pi_enum (by rfl) T.enum (pa_cons (pv 3) pa_nil)) (pg_tup rfl (pgs_cons (pg_name (i := 5) scVals.nd rfl (Or.inl rfl)) (pgs_cons (pg_name (i := 6) scVals.nd rfl (Or.inl rfl)) pgs_nil)))
        (pss_one (ps_asg (pe_op op_mulW (pe_ix ix_list (pv 6) (pe_callB call_len_seq (by rfl) T.len PySem.boot_len (pa_cons (pv 3) pa_nil)) (fun _ _ => rfl)) (pe_op op_fdivW (pv 4) (pe_ix ix_list (pv 6) (pv 5) (fun _ _ => rfl)))) (pg_sub (pv 7) (pe_ix ix_list (pv 2) (pv 5) (fun _ _ => rfl)) set_list))))
      (pss_one (ps_ret (pe_make MV GV hr rfl T.gV bV .nil pass0 (pa_cons (pv 7) (pa_cons (pv 4) pa_nil))))))))))), ?_⟩
    obtain ⟨dxS, hp⟩ := hS.ins
    have w' := z.wf
    have klt : ∀ s ∈ By.keysR rl, s < t.states := fun s hs => by
      unfold By.keysR at hs
      obtain ⟨x, hx, rfl⟩ := List.mem_map.mp hs
      have := each x hx
      rw [← this.2]; exact w'.at_ _ (By.act_mem (hi _ this.1))
    have tf := By.told_ruleL klt
    have kle : (By.keysR rl).length ≤ 6 := Nat.le_trans (By.nodup_le _ _ knd klt) z.states
    have kl : (By.keysR rl).length = rl.length := by unfold By.keysR; simp
    -- states = sorted(rule)
    refine ⟨_, rfl, dr, _, (By.keysR rl).map (fun (n : Nat) => (n : Int)), rfl, .inl hdr, by unfold rK By.keysR; simp [List.map_map, Function.comp_def], by rw [List.length_map]; omega, fun ys ls hperm hsrt nls => ?_⟩
    obtain ⟨o, rfl, ho⟩ : ∃ o : List Nat, ys = o.map (fun (n : Nat) => (n : Int)) ∧ o.Perm (By.keysR rl) := by
      refine ⟨ys.map Int.toNat, ?_, ?_⟩
      · rw [List.map_map]
        refine ((List.map_congr_left fun x hx => ?_).trans (List.map_id ys)).symm
        obtain ⟨n, _, rfl⟩ := List.mem_map.mp (hperm.mem_iff.mp hx)
        simp
      · have := hperm.map Int.toNat
        rw [List.map_map] at this
        have e : (Int.toNat ∘ fun (n : Nat) => (n : Int)) = id := by funext n; simp
        rw [e, List.map_id] at this
        exact this
    have d : By.Dom (By.ruleL t rl) o := ⟨ho.nodup_iff.mpr knd, fun s => by
      rw [ho.mem_iff, tf]
      exact ⟨fun h => By.lookR_in h, fun ⟨k, hk⟩ => List.mem_map.mpr ⟨_, By.lookR_some hk, rfl⟩⟩⟩
    have oN : o.length ≤ 6 := by rw [ho.length_eq]; exact kle
    have eo : ((o.map (fun (n : Nat) => (n : Int))).map V.int) = nv o := by rw [List.map_map]; rfl
    rw [eo]
    have s1 : Same H (upd H ls (.lst (nv o))) := same_new nls
    generalize hH1 : upd H ls (.lst (nv o)) = H1 at s1
    have hls : H1 ls = some (.lst (nv o)) := by rw [← hH1]; exact upd_same
    have lrow : (By.rowsM t (By.ruleL t rl) g r o).length = o.length := by unfold By.rowsM; simp
    have vo := By.values_ok z vf pf hg hrr d ivl
    simp only at vo
    have fit := rows_fit z vf pf hg hrr d ivl oN
    generalize hrs : By.rowsM t (By.ruleL t rl) g r o = rs at lrow vo fit
    -- rows = solved([..])
    refine ⟨_, rfl, ls, rfl, ⟨_, SqL.of hls⟩, fun D nD => lc_list (K := K) (a := ls) (xs := nv o) (fun i H' => Same H1 H' ∧ ∃ ds : List Addr, H' D = some (.lst (ds.map V.ref)) ∧ RowsBy D H' ds (rs.take i)) ⟨same_new nD, [], upd_same, .nil⟩ (fun i H' _ q => SqL.of (q.1 _ _ hls)) ?_ ?_⟩
    · rintro i y H' hii ⟨s2, ds, hD, hd⟩
      obtain ⟨n, hn, rfl⟩ := nv_at hii
      have nm : n ∈ o := List.mem_of_getElem? hn
      obtain ⟨kk, hkk⟩ := (d.mem n).mp nm
      have hlk : By.lookR rl n = some kk := by rw [← tf]; exact hkk
      have ek := each _ (By.lookR_some hlk)
      have s12 := s1.trans s2
      have am := By.act_mem (hi kk ek.1)
      refine ⟨rfl, _, rfl, p, dxS, _, rfl, s12 _ _ hp, sF_equation _ _ _ _ _, _, rfl, _, rfl, dr, .ref (addr kk), rfl, ?_, _, rfl, p, wl, al, addr kk, ls, t, idx, addr, g, r, t.act kk, o, rfl, hS.same s12, (hS.acts kk ek.1).same s12, s2 _ _ hls, d.nd, by rw [ek.2]; exact nm, by omega, ?_, hg, hrr, z.price _ am, z.whole _ am, hwa kk ek.1, fun H4 q s4 nq hq => ?_⟩
      · have := DGet.k (k := (Sum.inl (n : Int) : Key)) (s12 _ _ hdr)
        rw [rK_look, hlk] at this
        exact this
      · have := By.nodup_le _ _ z.goal w'.goal
        have := z.states
        omega
      · have hr2 : rs[i]? = some (By.equationM g r t.goal o (t.act kk)) := by
          rw [← hrs]; unfold By.rowsM
          rw [List.getElem?_map, hn]
          simp [hkk]
        exact lcr_more nD s2 hD hd s4 hr2 (fun e => by rw [e, hD] at nq; cases nq) hq (by omega)
    · rintro H2 ⟨s2, ds, hD, hd⟩
      have el : (nv o).length = rs.length := by simp [lrow]
      rw [el, List.take_length] at hd
      have hRA : RowsAt H2 ds rs := Paired.mapP hd fun _ _ q => q.2
      refine ⟨D, ds, rs, o.length + 1, rfl, hD, hRA, by omega, by omega, fit, fun H3 rd qs s3 hrd hqs => ?_⟩
      obtain ⟨lfin, rfin, vok⟩ := vo
      generalize By.solvedM rs = fin at lfin rfin vok hqs
      have lqs : qs.length = o.length := (paired_len hqs).trans lfin
      have s123 := (s1.trans s2).trans s3
      have hls3 : H3 ls = some (.lst (nv o)) := s3 _ _ (s2 _ _ hls)
      have fget : ∀ i (h : i < o.length), fin[i]? = some (fin.getD i []) := fun i h => by rw [List.getD_eq_getElem?_getD, List.getElem?_eq_getElem (by omega)]; rfl
      have bpos : ∀ c, c ≤ o.length → 0 < By.bottomM fin c := fun c hc => By.bottomM_pos (fun i hi => (rfin i hi).2.1) c hc
      have bfit : ∀ c, c ≤ o.length → (By.bottomM fin c).natAbs < 2 ^ 6000 := fun c hc => Nat.lt_of_le_of_lt (By.bottomM_fits (fun i hi => (rfin i hi).2.2 i (by omega)) c hc) (Nat.pow_lt_pow_right (by decide) (by
        have : 959 * c ≤ 959 * 6 := Nat.mul_le_mul_left _ (by omega)
        omega))
      have b9 : ∀ {n : Nat}, n < 2 ^ 959 → n < 2 ^ 9000 := fun h => Nat.lt_of_lt_of_le h (Nat.pow_le_pow_right (by decide) (by decide))
      -- bottom
      refine ⟨_, rfl, rd, _, rfl, SqL.of hrd, for_it (walk_enum (K := K) (a := rd) (xs := qs.map V.ref)) (fun i σ H' => Same H3 H' ∧ ∃ v5 v6 : Option V, σ = [some (.ref p), some (.ref dr), some (.ref ls), some (.ref rd), some (.int (By.bottomM fin i)), v5, v6, none, none])
        ⟨Same.refl _, none, none, rfl⟩ (fun i σ H' _ q => SqL.of (q.1 _ _ hrd)) ?_ ?_⟩
      · rintro i x σ H' H'' hlt ⟨s4, v5, v6, rfl⟩ ⟨T', y, y', rfl, nT, rfl, e1, e2⟩
        rw [List.length_map, lqs] at hlt
        cases e1
        obtain ⟨pr, epr, hpr⟩ := paired_at hqs (fget i hlt)
        have e2' : (qs.map V.ref)[i]? = some y' := e2
        rw [ref_of epr] at e2'
        cases e2'
        have s5 : Same H' (upd H' T' (.tup [V.int (i : Nat), V.ref pr])) := same_new nT
        have rr := rfin i hlt
        refine ⟨T', _, rfl, SqT.of upd_same, rfl, _, _, rfl, _, _, rfl, rfl, ?_⟩
        refine ⟨_, rfl, _, rfl, _, rfl, pr, _, _, .int ((fin.getD i []).getD i 0), rfl, rfl, SqL.of (s5 _ _ (s4 _ _ hpr)), iv_at (by rw [rr.1]; omega), _, _, rfl, rfl, mulW (b6 (bfit i (by omega))) (b9 (rr.2.2 i (by omega))), s4.trans s5, some (.int ((i : Nat) : Int)), some (.ref pr), ?_⟩
        rw [By.bottomM_succ]; rfl
      · rintro σ H4 ⟨s4, v5, v6, rfl⟩
        rw [List.length_map, lqs]
        generalize hbot : By.bottomM fin o.length = bottom at *
        have bp := bpos o.length (Nat.le_refl _)
        have bf := bfit o.length (Nat.le_refl _)
        rw [hbot] at bp bf
        have sA := s123.trans s4
        -- tops
        refine ⟨by show 1 ≤ sizeLine; decide, fun l0 nl0 => ?_⟩
        have s5 : Same H4 (upd H4 l0 (.lst [V.int 0])) := same_new nl0
        refine ⟨_, rfl, p, C.s, dxS, _, _, rfl, s5 _ _ (sA _ _ hp), T.clS, T.sMany, sF_many _ _ _ _ _, l0, _, _, rfl, rfl, upd_same, by omega, by have := z.states; omega, by have := z.states; exact Nat.le_of_lt (small (by simp; omega)), fun tl ntl => ?_⟩
        have erep : (List.replicate ((t.states : Int)).toNat [V.int 0]).flatten = iv (List.replicate t.states 0) := by simp [iv]
        rw [erep]
        have s6 : Same H (upd (upd H4 l0 (.lst [V.int 0])) tl (.lst (iv (List.replicate t.states 0)))) := (sA.trans s5).trans (same_new ntl)
        have ntl0 : H4 tl = none := s5.free ntl
        have ntlH : H tl = none := sA.free ntl0
        have hls4 : H4 ls = some (.lst (nv o)) := s4 _ _ hls3
        have hrd4 : H4 rd = some (.lst (qs.map V.ref)) := s4 _ _ hrd
        have hq4 : RowsAt H4 qs fin := hqs.same s4
        have s46 : Same H4 (upd (upd H4 l0 (.lst [V.int 0])) tl (.lst (iv (List.replicate t.states 0)))) := s5.trans (same_new ntl)
        generalize hH6 : upd (upd H4 l0 (.lst [V.int 0])) tl (.lst (iv (List.replicate t.states 0))) = H6 at s6 s46
        have htl6 : H6 tl = some (.lst (iv (List.replicate t.states 0))) := by rw [← hH6]; exact upd_same
        refine ⟨_, rfl, p, C.s, dxS, _, _, rfl, s6 _ _ hp, T.clS, T.sWanted, sF_wanted _ _ _ _ _, wl, rfl, ⟨_, SqL.of (s6 _ _ hS.wanted)⟩, for_list (K := K) (a := wl) (xs := nv t.goal)
          (fun i σ H' => Same H4 H' ∧ ∃ v8 : Option V, σ = [some (.ref p), some (.ref dr), some (.ref ls), some (.ref rd), some (.int bottom), v5, v6, some (.ref tl), v8] ∧ H' tl = some (.lst (iv (By.setsM (fun s => s) (fun _ => g * bottom) (t.goal.take i) (List.replicate t.states 0)))))
          ⟨s46, none, rfl, htl6⟩ (fun i σ H' _ q => SqL.of (q.1 _ _ (sA _ _ hS.wanted))) ?_ ?_⟩
        · rintro i y σ H' hii ⟨s7, v8, rfl, htl⟩
          obtain ⟨n, hn, rfl⟩ := nv_at hii
          have nlt : n < t.states := w'.goal n (List.mem_of_getElem? hn)
          refine ⟨_, rfl, p, C.s, dxS, _, _, rfl, s7 _ _ (sA _ _ hp), T.clS, T.sGoal, sF_goal _ _ _ _ _, _, rfl, _, _, rfl, rfl, mulW (bits (by omega)) (b6 bf), _, rfl, _, rfl, tl, _, _, n, rfl, rfl, htl, ix_nat (by rw [List.length_map, By.setsM_len]; simpa using nlt), ?_⟩
          rw [iv_set]
          refine ⟨same_upd s7 ntl0, _, rfl, ?_⟩
          rw [upd_same, take_succ hn]
          unfold By.setsM
          rw [List.foldl_append]; rfl
        · rintro σ H7 ⟨s7, v8, rfl, htl⟩
          rw [List.length_map, List.take_length] at htl
          generalize htw : By.setsM (fun s => s) (fun _ => g * bottom) t.goal (List.replicate t.states 0) = tw at htl
          have ltw : tw.length = t.states := by rw [← htw, By.setsM_len]; simp
          -- the rows' tops
          refine ⟨_, rfl, rd, _, rfl, SqL.of (s7 _ _ hrd4), for_it (walk_enum (K := K) (a := rd) (xs := qs.map V.ref)) (fun i σ H' => Same H4 H' ∧ ∃ v5 v6 : Option V, σ = [some (.ref p), some (.ref dr), some (.ref ls), some (.ref rd), some (.int bottom), v5, v6, some (.ref tl), v8] ∧
              H' tl = some (.lst (iv (By.setsM (fun i => o.getD i 0) (fun i => (fin.getD i []).getD o.length 0 * (bottom / (fin.getD i []).getD i 0)) (List.range i) tw))))
            ⟨s7, v5, v6, rfl, htl⟩ (fun i σ H' _ q => SqL.of (q.1 _ _ hrd4)) ?_ ?_⟩
          · rintro i x σ H' H'' hlt ⟨s8, u5, u6, rfl, htl8⟩ ⟨T', y, y', rfl, nT, rfl, e1, e2⟩
            rw [List.length_map, lqs] at hlt
            cases e1
            obtain ⟨pr, epr, hpr⟩ := paired_at hq4 (fget i hlt)
            have e2' : (qs.map V.ref)[i]? = some y' := e2
            rw [ref_of epr] at e2'
            cases e2'
            have s9 : Same H' (upd H' T' (.tup [V.int (i : Nat), V.ref pr])) := same_new nT
            have rr := rfin i hlt
            have hpr9 := s9 _ _ (s8 _ _ hpr)
            have olt : o.getD i 0 < t.states := klt _ (ho.mem_iff.mp (By.getD_mem hlt))
            have eon : (nv o)[i]? = some (V.int ((o.getD i 0 : Nat) : Int)) := by rw [List.getElem?_map, List.getElem?_eq_getElem hlt, List.getD_eq_getElem?_getD, List.getElem?_eq_getElem hlt]; rfl
            have lq2 : (((qs.map V.ref).length : Nat) : Int) = ((o.length : Nat) : Int) := by rw [List.length_map, lqs]
            refine ⟨T', _, rfl, SqT.of upd_same, rfl, _, _, rfl, _, _, rfl, rfl, ?_⟩
            refine ⟨_, rfl, _, rfl, rd, _, rfl, .inl (SqL.of (s9 _ _ (s8 _ _ hrd4))), pr, _, _, .int ((fin.getD i []).getD o.length 0), rfl, rfl, SqL.of hpr9, (by rw [lq2]; exact iv_at (by rw [rr.1]; omega)), _, rfl, _, rfl, _, rfl, pr, _, _, .int ((fin.getD i []).getD i 0), rfl, rfl, SqL.of hpr9, iv_at (by rw [rr.1]; omega), _, _, rfl, rfl, wide_div (b := 959) rr.2.1 (rr.2.2 i (by omega)) (by decide) (by decide), _, _, rfl, rfl, ?_, ?_⟩
            · refine mulW (b9 (rr.2.2 o.length (by omega))) (Nat.lt_of_le_of_lt ?_ (b6 bf))
              have h1 : 0 ≤ bottom / (fin.getD i []).getD i 0 := Int.ediv_nonneg (by omega) (by have := rr.2.1; omega)
              have h2 : bottom / (fin.getD i []).getD i 0 ≤ bottom := Int.ediv_le_self _ (by omega)
              show (bottom / (fin.getD i []).getD i 0).natAbs ≤ bottom.natAbs
              omega
            · refine ⟨_, rfl, _, rfl, _, rfl, ls, _, _, .int ((o.getD i 0 : Nat) : Int), rfl, rfl, SqL.of (s9 _ _ (s8 _ _ hls4)), atI_nat eon, tl, _, _, o.getD i 0, rfl, rfl, s9 _ _ htl8, ix_nat (by rw [List.length_map, By.setsM_len, ltw]; exact olt), ?_⟩
              rw [iv_set]
              refine ⟨same_upd (s8.trans s9) ntl0, _, _, rfl, ?_⟩
              rw [upd_same, List.range_succ]
              unfold By.setsM
              rw [List.foldl_append]; rfl
          · rintro σ H8 ⟨s8, u5, u6, rfl, htl8⟩
            rw [List.length_map, lqs] at htl8
            have etops : By.setsM (fun i => o.getD i 0) (fun i => (fin.getD i []).getD o.length 0 * (bottom / (fin.getD i []).getD i 0)) (List.range o.length) tw = By.topsM t.states g bottom t.goal o fin := by
              unfold By.topsM; rw [htw]
            rw [etops] at htl8
            -- Values(tops, bottom)
            refine ⟨_, rfl, _, rfl, ?_⟩
            intro x dx nx ndx nex
            have htl9 : (upd (upd H8 dx (.own x)) x (.ins C.v dx [])) tl = some (.lst (iv (By.topsM t.states g bottom t.goal o fin))) := by
              rw [upd_ne (ne_of_none htl8 nx), upd_ne (ne_of_none htl8 ndx)]; exact htl8
            refine ⟨x, dx, tl, _, bottom, rfl, upd_same, htl9, fun H9 hV9 kp => ?_⟩
            exact ⟨rfl, k H9 x _ bottom ((sA.trans s8).trans (Same.made nx ndx kp)) hV9 vok⟩
end
end ByH

set_option maxRecDepth 100000
set_option maxHeartbeats 2000000
/-! ByBv: Search.best_values. -/
namespace ByH
open PySem PySem.Spec PyProof.Rows L2 ByR
abbrev nBest : List Str := ["self", "rule", "values", "better"]
theorem scBest : FnScope nBest ["self"] (defScope sBest) := ⟨rfl, rfl, rfl, by decide +kernel, rfl, by decide +kernel, by decide +kernel⟩
/-- what a search asks of its house -/
structure SeaSz (t : Pn08.Task) (idx : List Nat) : Prop where
  sz : By.Sz t
  lt : ∀ k ∈ idx, k < t.acts.length
  few : Few t idx
  act : ∀ k ∈ idx, ActSz (t.act k) t.states
  wt : ∀ k ∈ idx, ∀ u, By.wAt (t.act k).outs u ≤ 120
def spBest (C : Adr) : Sp := fun vs H Q _ => ∃ (p wl al : Addr) (t : Pn08.Task) (idx : List Nat) (addr : Nat → Addr) (g r : Int) (Pb : By.Prob t idx g r), vs = [.ref p] ∧ SeaAt C H p t wl al idx addr g r ∧ SeaSz t idx ∧ g.natAbs ≤ 1 ∧ r.natAbs ≤ 1 ∧
  ∀ (H' : Hp) (q : Addr) (tops : List Int) (bottom : Int) (f : Pn08.Rule), Same H H' → ValAt C H' q tops bottom → Pb.I f → By.ValOk t.states (Pb.v f) tops bottom →
    (∀ s k, Pn08.told f s = some k → ∀ i ∈ idx, i ∈ t.acts_ s → ¬ By.betterThan t r (Pb.v f) s i) → Q (.ref q) H'
section
variable {P : Program} {w : World} {K : PySem.W.Frag} {mg : Str → Option Value} {base : Heap} {C : Adr}
/-- the defs of Search and what they call, where they stand -/
structure Sea (P : Program) (w : World) (K : PySem.W.Frag) (mg : Str → Option Value) (base : Heap) (C : Adr) : Prop where
  first : ∃ f fd, Meth K C.s "first_rule" f ∧ Binds K fd ["self"] [] ∧ FnOk P w K mg base CX0 3 f fd ["self"] (spFirst C)
  vals : ∃ f fd, Meth K C.s "values_of" f ∧ Binds K fd ["self", "rule"] [] ∧ FnOk P w K mg base CX0 3 f fd ["self", "rule"] (spVals C)
  bet : ∃ f fd, Meth K C.s "better_acts" f ∧ Binds K fd ["self", "rule", "values"] [] ∧ FnOk P w K mg base CX0 2 f fd ["self", "rule", "values"] (spBet C)
theorem ok_best {f : Addr} {fd : FuncData} (F : Fun K "best_values" "Search.best_values" sBest f fd) (S : Sea P w K mg base C) (T : Txt K mg C) : FnOk P w K mg base CX0 4 f fd ["self"] (spBest C) := by
  obtain ⟨fF, fdF, mF, bF, GF⟩ := S.first
  obtain ⟨fV, fdV, mV, bV, GV⟩ := S.vals
  obtain ⟨fB, fdB, mB, bB, GB⟩ := S.bet
  refine F.ok scBest (fun vs H Q E h => ?_) (fun cdv A outer s H vs Q E hr h => ?_)
  · obtain ⟨p, wl, al, t, idx, addr, g, r, Pb, rfl, _⟩ := h
    rfl
  · obtain ⟨p, wl, al, t, idx, addr, g, r, Pb, rfl, hS, z, hg, hrr, k⟩ := h
    have hr2 : Room 2 _ := hr.mono (by decide)
    refine ⟨_, pss_cons (ps_set (i := 1) scBest.nd rfl (Or.inl rfl) (pe_meth0 (pv 0) T.clS mF GF hr bF .nil pass0))
      (pss_cons (ps_set (i := 2) scBest.nd rfl (Or.inl rfl) (pe_meth (pv 0) T.clS mV GV hr bV .nil pass0 (pa_cons (pv 1) pa_nil)))
      (pss_cons (ps_set (i := 3) scBest.nd rfl (Or.inl rfl) (pe_meth (pv 0) T.clS mB GB hr2 bB .nil pass0 (pa_cons (pv 1) (pa_cons (pv 2) pa_nil))))
      (pss_cons (ps_while PassesOwn.never (pt_cmpR op_gt (pe_callB call_lenD (by rfl) T.len PySem.boot_len (pa_cons (pv 3) pa_nil)) pe_int (nomark _))
        (pss_cons (ps_expr (pe_bm PySem.F.plainAttrs_dict PySem.F.slot_dict_update PySem.F.type_dict_update mtd_update (pv 1) (pa_cons (pv 3) pa_nil)))
        (pss_cons (ps_set (i := 2) scBest.nd rfl (Or.inl rfl) (pe_meth (pv 0) T.clS mV GV hr bV .nil pass0 (pa_cons (pv 1) pa_nil)))
        (pss_one (ps_set (i := 3) scBest.nd rfl (Or.inl rfl) (pe_meth (pv 0) T.clS mB GB hr2 bB .nil pass0 (pa_cons (pv 1) (pa_cons (pv 2) pa_nil))))))))
      (pss_one (ps_ret (pv 2)))))), ?_⟩
    obtain ⟨dxS, hp⟩ := hS.ins
    have w' := z.sz.wf
    have zv : ∀ {v : Nat → Rat} {tops : List Int} {bottom : Int}, By.ValOk t.states v tops bottom → ValSz tops bottom t.states := fun h => ⟨h.len, h.fitT, h.fitB⟩
    -- rule, values, better
    refine ⟨_, rfl, p, dxS, _, rfl, hp, sF_first _ _ _ _ _, p, wl, al, t, idx, addr, g, r, rfl, hS, z.sz, z.lt, z.few, fun H1 dr rl s1 ndr hdr fst no => ?_⟩
    have kp : By.Kept t idx Pb rl := ⟨fst.prob w' z.lt Pb no, (List.nodup_append.mp fst.nd).2.1, fst.each⟩
    refine ⟨_, rfl, p, dxS, _, rfl, s1 _ _ hp, sF_values _ _ _ _ _, _, rfl, p, wl, al, dr, t, idx, addr, g, r, rl, Pb.v (By.ruleL t rl), rfl, hS.same s1, hdr, z.sz, z.lt, Pb.valid _ kp.inv, Pb.proper _ kp.inv, kp.nd, kp.each, Pb.isVal _ kp.inv, hg, hrr, z.wt, fun H2 q2 tops bottom s2 hV2 ok2 => ?_⟩
    have s12 := s1.trans s2
    refine ⟨_, rfl, p, dxS, _, rfl, s12 _ _ hp, sF_better _ _ _ _ _, _, rfl, _, rfl, p, wl, al, dr, q2, t, idx, addr, g, r, rl, tops, bottom, rfl, hS.same s12, s2 _ _ hdr, hV2, z.few.len, z.act, zv ok2, hrr, fun H3 db s3 ndb hdb => ?_⟩
    refine ⟨fun m σ H' => Same H H' ∧ ∃ (rl : By.RL) (pv db : Addr) (tops : List Int) (bottom : Int), m = Pb.left (By.ruleL t rl) ∧ σ = [some (.ref p), some (.ref dr), some (.ref pv), some (.ref db)] ∧ dr ≠ db ∧ H' dr = some (.dK (rK addr rl)) ∧ ValAt C H' pv tops bottom ∧
      By.ValOk t.states (Pb.v (By.ruleL t rl)) tops bottom ∧ H' db = some (.dK (rK addr (By.betterM t r tops bottom rl idx))) ∧ By.Kept t idx Pb rl, ⟨_, s12.trans s3, rl, q2, db, tops, bottom, rfl, rfl, ne_of_none (s2 _ _ hdr) ndb, s3 _ _ (s2 _ _ hdr), hV2.same s3, ok2, hdb, kp⟩, ?_⟩
    rintro m σ H' ⟨sH, rl, pvv, db, tops, bottom, rfl, rfl, ndd, hd, hV, ok, hb, kp⟩
    have bo := By.better_ok t r tops bottom rl idx
    generalize hbm : By.betterM t r tops bottom rl idx = b at bo hb
    have lrl : rl.length ≤ 6 := by
      have := By.nodup_le _ _ kp.nd (kp.lt w' z.lt)
      have := z.sz.states
      have e : (By.keysR rl).length = rl.length := by unfold By.keysR; simp
      omega
    have lb : b.length ≤ 100 := by
      have := bet_len (t := t) (r := r) (tops := tops) (bottom := bottom) (rl := rl) idx []
      rw [← hbm]; unfold By.betterM
      have := z.few.len
      simp only [List.length_nil] at *
      omega
    refine ⟨_, rfl, db, _, rfl, hb, _, _, rfl, rfl, _, rfl, ?_⟩
    refine ite2 (fun c => ?_) (fun c => ?_)
    · have bp : b ≠ [] := fun e => by
        have := of_decide_eq_true c
        rw [rK_len, e] at this
        simp at this
      have st := kp.step w' z.lt ok bo bp
      refine ⟨fun σ' H' => Same H H' ∧ ∃ (pv db : Addr) (tops : List Int) (bottom : Int), σ' = [some (.ref p), some (.ref dr), some (.ref pv), some (.ref db)] ∧ dr ≠ db ∧ H' dr = some (.dK (rK addr (By.mergeR rl b))) ∧ ValAt C H' pv tops bottom ∧
        By.ValOk t.states (Pb.v (By.ruleL t (By.mergeR rl b))) tops bottom ∧ H' db = some (.dK (rK addr (By.betterM t r tops bottom (By.mergeR rl b) idx))), fun σ' H'' ⟨a1, a2, a3, a4, a5, a6, a7, a8, a9, a10, a11⟩ => ⟨_, st.2, a1, By.mergeR rl b, a2, a3, a4, a5, rfl, a6, a7, a8, a9, a10, a11, st.1⟩, ?_⟩
      refine ⟨_, rfl, .inr (.inr (.inl ⟨rfl, .inl ⟨_, hd⟩⟩)), _, rfl, dr, db, _, _, rfl, rfl, hd, hb, ndd, by rw [rK_len, rK_len]; exact Nat.le_of_lt (small (by omega)), ?_⟩
      rw [rK_merge]
      have s4 : Same H (upd H' dr (.dK (rK addr (By.mergeR rl b)))) := same_upd sH ndr
      refine ⟨_, rfl, p, dxS, _, rfl, s4 _ _ hp, sF_values _ _ _ _ _, _, rfl, p, wl, al, dr, t, idx, addr, g, r, By.mergeR rl b, Pb.v (By.ruleL t (By.mergeR rl b)), rfl, hS.same s4, upd_same, z.sz, z.lt, Pb.valid _ st.1.inv, Pb.proper _ st.1.inv, st.1.nd, st.1.each, Pb.isVal _ st.1.inv, hg, hrr, z.wt, fun H5 q5 tops5 bottom5 s5 hV5 ok5 => ?_⟩
      have s45 := s4.trans s5
      have hd5 : H5 dr = some (.dK (rK addr (By.mergeR rl b))) := s5 _ _ upd_same
      refine ⟨_, rfl, p, dxS, _, rfl, s45 _ _ hp, sF_better _ _ _ _ _, _, rfl, _, rfl, p, wl, al, dr, q5, t, idx, addr, g, r, By.mergeR rl b, tops5, bottom5, rfl, hS.same s45, hd5, hV5, z.few.len, z.act, zv ok5, hrr, fun H6 db6 s6 ndb6 hdb6 => ?_⟩
      exact ⟨s45.trans s6, q5, db6, tops5, bottom5, rfl, ne_of_none hd5 ndb6, s6 _ _ hd5, hV5.same s6, ok5, hdb6⟩
    · have b0 : b = [] := by
        refine List.length_eq_zero_iff.mp ?_
        refine Classical.byContradiction fun q => c (decide_eq_true ?_)
        rw [rK_len]; omega
      exact ⟨_, rfl, k H' pvv tops bottom _ sH hV kp.inv ok (kp.fin w' z.lt ok (hbm.trans b0))⟩
end
end ByH

set_option maxRecDepth 100000
set_option maxHeartbeats 2000000
/-! ByBa: Search.best_acts. -/
namespace ByH
open PySem PySem.Spec PyProof.Rows L2 ByR
theorem filt_take {idx : List Nat} {i k : Nat} (h : idx[i]? = some k) (p : Nat → Bool) : (idx.take (i + 1)).filter p = (idx.take i).filter p ++ if p k = true then [k] else [] := by
  rw [take_succ h, List.filter_append]
  cases c : p k <;> simp [c]
abbrev refs (addr : Nat → Addr) (l : List Nat) : List V := l.map fun k => V.ref (addr k)
theorem refs_app (addr : Nat → Addr) (l : List Nat) (k : Nat) : refs addr (l ++ [k]) = refs addr l ++ [V.ref (addr k)] := by simp [refs]
theorem filt_len {idx : List Nat} {i : Nat} {p : Nat → Bool} {addr : Nat → Addr} (h : idx.length ≤ 100) : (refs addr ((idx.take i).filter p)).length < sizeLine := by
  rw [List.length_map]
  refine small (Nat.le_trans (List.length_filter_le _ _) ?_)
  rw [List.length_take]; omega
abbrev nBestActs : List Str := ["self", "values", "acting", "act"]
theorem scBestActs : FnScope nBestActs ["self", "values"] (defScope sBestActs) := ⟨rfl, rfl, rfl, by decide +kernel, rfl, by decide +kernel, by decide +kernel⟩
def spBestActs (C : Adr) : Sp := fun vs H Q _ => ∃ (p wl al pv : Addr) (t : Pn08.Task) (idx : List Nat) (addr : Nat → Addr) (g r : Int) (tops : List Int) (bottom : Int), vs = [.ref p, .ref pv] ∧ SeaAt C H p t wl al idx addr g r ∧ ValAt C H pv tops bottom ∧
  idx.length ≤ 100 ∧ (∀ k ∈ idx, ActSz (t.act k) t.states) ∧ ValSz tops bottom t.states ∧ r.natAbs ≤ 1 ∧
  ∀ (H' : Hp) (d : Addr), Same H H' → H d = none → H' d = some (.lst (refs addr (By.bestIdx t r tops bottom idx))) → Q (.ref d) H'
section
variable {P : Program} {w : World} {K : PySem.W.Frag} {mg : Str → Option Value} {base : Heap} {C : Adr}
theorem ok_bestActs {f fW : Addr} {fd fdW : FuncData} (F : Fun K "best_acts" "Search.best_acts" sBestActs f fd) (FW : Fun K "worth" "Search.worth" sWorth fW fdW) (bW : Binds K fdW ["self", "act", "values"] []) (mW : Meth K C.s "worth" fW) (T : Txt K mg C) :
    FnOk P w K mg base CX0 2 f fd ["self", "values"] (spBestActs C) := by
  have GW : FnOk P w K mg base CX0 1 fW fdW ["self", "act", "values"] (spWorth C) := ok_worth FW T
  refine F.ok scBestActs (fun vs H Q E h => ?_) (fun cdv A outer s H vs Q E hr h => ?_)
  · obtain ⟨p, wl, al, pv, t, idx, addr, g, r, tops, bottom, rfl, _⟩ := h
    rfl
  · obtain ⟨p, wl, al, pvv, t, idx, addr, g, r, tops, bottom, rfl, hS, hV, hlen, za, zv, hrr, k⟩ := h
    refine ⟨_, pss_cons (ps_setLc (i := 2) (own := [("act", 3)]) (g := gName 3) (tt := tTest (tOp (rIn K true) (tFld K (tVar 3) "state") (tFld K (tVar 0) "wanted"))) (te := tVar 3) rfl scBestActs.nd rfl rfl (sw_true rfl rfl rfl (by decide +kernel)) (pi_list (pe_fld (pv 0) rfl))
        (blkOk_by (own := [("act", 3)]) (N := nBestActs) (sc := defScope sBestActs) (by decide +kernel)) (fun _ _ _ _ _ => pg_name (i := 3) scBestActs.nd rfl (Or.inl rfl))
        (fun _ _ _ _ _ => pts_one (pt_cmpR op_notIn_seq (pe_fld (pv 3) rfl) (pe_fld (pv 0) rfl) (by rfl))) (fun _ _ _ _ _ => pv 3))
      (pss_one (ps_ret (pe_lc (own := [("act", 3)]) (g := gName 3) (tt := tTest (tOp rEq (tMeth C.s "worth" (spWorth C) [] E0 (tVar 0) (tCons (tVar 3) (tCons (tVar 1) tNil))) (tOp (rI CMulW fun i j => .int (i * j)) (tFld K (tVar 3) "whole") (tOp (rIxL K) (tFld K (tVar 1) "tops") (tFld K (tVar 3) "state"))))) (te := tVar 3) rfl scBestActs.nd (pi_list (pv 2))
        (blkOk_by (own := [("act", 3)]) (N := nBestActs) (sc := defScope sBestActs) (by decide +kernel)) (fun _ _ _ _ _ => pg_name (i := 3) scBestActs.nd rfl (Or.inl rfl))
        (fun _ _ _ _ _ => pts_one (pt_cmpR op_eq (pe_meth (pv 0) T.clS mW GW hr bW .nil pass0 (pa_cons (pv 3) (pa_cons (pv 1) pa_nil))) (pe_op op_mulW (pe_fld (pv 3) rfl) (pe_ix ix_list (pe_fld (pv 1) rfl) (pe_fld (pv 3) rfl) (fun _ _ => rfl))) (nomark _))) (fun _ _ _ _ _ => pv 3)))), ?_⟩
    obtain ⟨dxS, hp⟩ := hS.ins
    obtain ⟨dxV, tl, h3, h4⟩ := id hV
    refine ⟨_, rfl, p, C.s, dxS, _, _, rfl, hp, T.clS, T.sActs, sF_acts _ _ _ _ _, al, rfl, ⟨_, SqL.of hS.list⟩, fun D nD => lc_list (K := K) (a := al) (xs := refs addr idx)
      (fun i H' => Same H H' ∧ H' D = some (.lst (refs addr ((idx.take i).filter fun k => !t.goal.contains (t.act k).at_)))) ⟨same_new nD, upd_same⟩ (fun i H' _ q => SqL.of (q.1 _ _ hS.list)) ?_ ?_⟩
    · rintro i y H' hi ⟨s1, hD⟩
      obtain ⟨kk, hk, rfl⟩ := ref_at hi
      have km : kk ∈ idx := List.mem_of_getElem? hk
      have hA := (hS.acts kk km).same s1
      obtain ⟨nn, dx, dw, h1, h2⟩ := id hA
      refine ⟨rfl, _, rfl, addr kk, C.a, dx, _, _, rfl, h1, T.clA, T.aState, aF_state _ _ _, _, rfl, p, C.s, dxS, _, _, rfl, s1 _ _ hp, T.clS, T.sWanted, sF_wanted _ _ _ _ _, wl, nv t.goal, rfl, .inl (SqL.of (s1 _ _ hS.wanted)), rfl, nv_flat _, _, rfl, ?_⟩
      have e1 : inV (V.int ((t.act kk).at_ : Int)) (nv t.goal) = t.goal.contains (t.act kk).at_ := inV_nv _ _
      refine ite2 (fun c => ?_) (fun c => ?_)
      · have c' : (!t.goal.contains (t.act kk).at_) = true := by rw [← e1]; exact c
        refine ⟨_, rfl, _, hD, filt_len hlen, same_upd s1 nD, ?_⟩
        rw [upd_same, filt_take hk, if_pos c', refs_app]
      · have c' : ¬ (!t.goal.contains (t.act kk).at_) = true := by rw [← e1]; exact c
        refine ⟨s1, ?_⟩
        rw [hD, filt_take hk, if_neg c', List.append_nil]
    · rintro H1 ⟨s1, hD⟩
      rw [List.length_map, List.take_length] at hD
      have sub : ∀ k ∈ idx.filter (fun k => !t.goal.contains (t.act k).at_), k ∈ idx := fun k hk => (List.mem_filter.mp hk).1
      have eb : By.bestIdx t r tops bottom idx = (idx.filter (fun k => !t.goal.contains (t.act k).at_)).filter (By.eqB t r tops bottom) := by
        unfold By.bestIdx
        rw [List.filter_filter]
        refine List.filter_congr fun k _ => ?_
        rw [Bool.and_comm]
      have hlen2 : (idx.filter (fun k => !t.goal.contains (t.act k).at_)).length ≤ 100 := Nat.le_trans (List.length_filter_le _ _) hlen
      rw [eb] at k
      generalize idx.filter (fun k => !t.goal.contains (t.act k).at_) = idx2 at hD sub hlen2 k
      refine ⟨_, rfl, D, rfl, ⟨_, SqL.of hD⟩, fun D2 nD2 => lc_list (K := K) (a := D) (xs := refs addr idx2)
        (fun i H' => Same H1 H' ∧ H' D2 = some (.lst (refs addr ((idx2.take i).filter (By.eqB t r tops bottom))))) ⟨same_new nD2, upd_same⟩ (fun i H' _ q => SqL.of (q.1 _ _ hD)) ?_ ?_⟩
      · rintro i y H' hi ⟨s2, hD2⟩
        obtain ⟨kk, hk, rfl⟩ := ref_at hi
        have km : kk ∈ idx := sub kk (List.mem_of_getElem? hk)
        have s12 := s1.trans s2
        have hA := (hS.acts kk km).same s12
        obtain ⟨nn, dx, dw, h1, h2⟩ := id hA
        have zk := za kk km
        refine ⟨rfl, _, rfl, p, dxS, _, rfl, s12 _ _ hp, sF_worth _ _ _ _ _, _, rfl, _, rfl, p, wl, al, addr kk, pvv, t, idx, addr, g, r, t.act kk, tops, bottom, t.states, rfl, hS.same s12, hA, hV.same s12, zk, zv, hrr, fun H2 s3 => ?_⟩
        refine ⟨_, rfl, addr kk, C.a, dx, _, _, rfl, s3 _ _ h1, T.clA, T.aWhole, aF_whole _ _ _, _, rfl, pvv, C.v, dxV, _, _, rfl, s3 _ _ (s12 _ _ h3), T.clV, T.vTops, vF_tops _ _, _, rfl, addr kk, C.a, dx, _, _, rfl, s3 _ _ h1, T.clA, T.aState, aF_state _ _ _, tl, _, _, .int (tops.getD (t.act kk).at_ 0), rfl, rfl, SqL.of (s3 _ _ (s12 _ _ h4)), iv_at (by rw [zv.len]; exact zk.at_),
          _, _, rfl, rfl, mulW (bits (by have := zk.whole; omega)) (b7 (zv.tops _)), rfl, _, rfl, ?_⟩
        have e2 : decide (V.int (By.worthM r tops bottom (t.act kk)) = V.int (((t.act kk).whole : Int) * tops.getD (t.act kk).at_ 0)) = By.eqB t r tops bottom kk := by
          unfold By.eqB
          exact decide_eq_decide.mpr ⟨fun h => V.int.inj h, fun h => by rw [h]⟩
        refine ite2 (fun c => ?_) (fun c => ?_)
        · have c' : By.eqB t r tops bottom kk = true := by rw [← e2]; exact c
          refine ⟨_, rfl, _, s3 _ _ hD2, filt_len hlen2, same_upd (s2.trans s3) nD2, ?_⟩
          rw [upd_same, filt_take hk, if_pos c', refs_app]
        · have c' : ¬ By.eqB t r tops bottom kk = true := by rw [← e2]; exact c
          refine ⟨s2.trans s3, ?_⟩
          rw [s3 _ _ hD2, filt_take hk, if_neg c', List.append_nil]
      · rintro H2 ⟨s2, hD2⟩
        rw [List.length_map, List.take_length] at hD2
        exact k H2 D2 (s1.trans s2) (s1.free nD2) hD2
end
end ByH

set_option maxRecDepth 100000
set_option maxHeartbeats 2000000
/-! ByHo: House: chance_search, cost_search. -/
namespace ByH
open PySem PySem.Spec PyProof.Rows L2 ByR
abbrev sHouInit : Stmt := inClass (top 20) 0
abbrev sBegins : Stmt := inClass (top 20) 1
abbrev sAct : Stmt := inClass (top 20) 2
abbrev sChance : Stmt := inClass (top 20) 3
abbrev sCost : Stmt := inClass (top 20) 4
abbrev sLikely : Stmt := inClass (top 20) 5
abbrev sCheap : Stmt := inClass (top 20) 6
abbrev sJudge : Stmt := inClass (top 20) 7
abbrev sActsOf : Stmt := inClass (top 20) 8
abbrev sBC : Stmt := inClass (top 20) 9
abbrev sBK : Stmt := inClass (top 20) 10
abbrev sCS : Stmt := inClass (top 20) 11
abbrev sKS : Stmt := inClass (top 20) 12
section
variable (n : Nat) (wl al : Addr)
theorem hF_begins : (houF n wl al).lookup ("begins" : Str) = none := by rfl
theorem hF_act : (houF n wl al).lookup ("act" : Str) = none := by rfl
theorem hF_chance : (houF n wl al).lookup ("chance" : Str) = none := by rfl
theorem hF_cost : (houF n wl al).lookup ("cost" : Str) = none := by rfl
theorem hF_likely : (houF n wl al).lookup ("likely" : Str) = none := by rfl
theorem hF_cheap : (houF n wl al).lookup ("cheap" : Str) = none := by rfl
theorem hF_judge : (houF n wl al).lookup ("judge" : Str) = none := by rfl
theorem hF_actsOf : (houF n wl al).lookup ("acts_of" : Str) = none := by rfl
theorem hF_bc : (houF n wl al).lookup ("best_chance" : Str) = none := by rfl
theorem hF_bk : (houF n wl al).lookup ("best_cost" : Str) = none := by rfl
theorem hF_cs : (houF n wl al).lookup ("chance_search" : Str) = none := by rfl
theorem hF_ks : (houF n wl al).lookup ("cost_search" : Str) = none := by rfl
end
theorem HouAt.same {C : Adr} {H H' : Hp} {p dx wl al : Addr} {ps : List Addr} {t : Pn08.Task} (h : HouAt C H p dx wl al ps t) (s : Same H H') : HouAt C H' p dx wl al ps t :=
  ⟨s _ _ h.ins, s _ _ h.wanted, s _ _ h.list, h.acts.same s, fun i q hq => (h.nums i q hq).same s⟩
/-- a house and a list of acts, as a house that has these acts alone -/
structure SubAt (C : Adr) (H : Hp) (p dx wl al l : Addr) (ps : List Addr) (t : Pn08.Task) : Prop where
  ins : H p = some (.ins C.h dx (houF t.states wl al))
  wanted : H wl = some (.lst (nv t.goal))
  list : H l = some (.lst (ps.map V.ref))
  acts : ActsAt C H ps t.acts
theorem SubAt.same {C : Adr} {H H' : Hp} {p dx wl al l : Addr} {ps : List Addr} {t : Pn08.Task} (h : SubAt C H p dx wl al l ps t) (s : Same H H') : SubAt C H' p dx wl al l ps t :=
  ⟨s _ _ h.ins, s _ _ h.wanted, s _ _ h.list, h.acts.same s⟩
theorem HouAt.sub {C : Adr} {H : Hp} {p dx wl al : Addr} {ps : List Addr} {t : Pn08.Task} (h : HouAt C H p dx wl al ps t) : SubAt C H p dx wl al al ps t := ⟨h.ins, h.wanted, h.list, h.acts⟩
def addrOf (ps : List Addr) (k : Nat) : Addr := ps.getD k 0
theorem acts_addr {C : Adr} {H : Hp} {ps : List Addr} {t : Pn08.Task} (h : ActsAt C H ps t.acts) {k : Nat} (hk : k < t.acts.length) : ActAt C H (addrOf ps k) (t.act k) := by
  have e : t.acts[k]? = some (t.act k) := by
    unfold Pn08.Task.act
    rw [List.getD_eq_getElem?_getD, List.getElem?_eq_getElem hk]; rfl
  obtain ⟨p, hp, ha⟩ := paired_at h e
  unfold addrOf
  rw [List.getD_eq_getElem?_getD, hp]; exact ha
theorem acts_list {ps : List Addr} {n : Nat} (h : ps.length = n) : refs (addrOf ps) (List.range n) = ps.map V.ref := by
  subst h
  refine List.ext_getElem (by simp) fun i h1 h2 => ?_
  simp only [List.length_map, List.length_range] at h1
  simp [addrOf, h1]
theorem HouAt.num {C : Adr} {H : Hp} {p dx wl al : Addr} {ps : List Addr} {t : Pn08.Task} (h : HouAt C H p dx wl al ps t) {k : Nat} (hk : k < t.acts.length) : NoAt C H (addrOf ps k) k := by
  have l := paired_len h.acts
  have hk' : k < ps.length := by omega
  refine h.nums k _ ?_
  unfold addrOf
  rw [List.getD_eq_getElem?_getD, List.getElem?_eq_getElem hk']; rfl
theorem act_sz {t : Pn08.Task} (G : By.Good t) {k : Nat} (hk : k < t.acts.length) : ActSz (t.act k) t.states := by
  have m := By.act_mem hk
  exact ⟨by have := G.outs _ m; omega, G.sz.wf.outs _ m, fun x hx => by have := G.wt _ m x hx; omega, G.sz.price _ m, G.sz.whole _ m, G.sz.wf.at_ _ m⟩
theorem wAt_le {o : By.Outs} (h : ∀ x ∈ o, x.2 ≤ 20) (u : Nat) : By.wAt o u ≤ 120 := by
  unfold By.wAt
  induction o with
  | nil => simp
  | cons x o ih =>
    rw [List.lookup_cons]
    cases (u == x.1) with
    | true => have := h x (by simp); simp; omega
    | false => exact ih (fun y hy => h y (by simp [hy]))
theorem sea_sz {t : Pn08.Task} (G : By.Good t) {idx : List Nat} (hl : idx.length ≤ 100) (hi : ∀ k ∈ idx, k < t.acts.length) : SeaSz t idx :=
  ⟨G.sz, hi, ⟨hl, fun k hk => by have := G.outs _ (By.act_mem (hi k hk)); omega⟩, fun k hk => act_sz G (hi k hk), fun k hk => wAt_le (G.wt _ (By.act_mem (hi k hk)))⟩
theorem SubAt.len {C : Adr} {H : Hp} {p dx wl al l : Addr} {ps : List Addr} {t : Pn08.Task} (h : SubAt C H p dx wl al l ps t) : ps.length = t.acts.length := paired_len h.acts
theorem SubAt.refs {C : Adr} {H : Hp} {p dx wl al l : Addr} {ps : List Addr} {t : Pn08.Task} (h : SubAt C H p dx wl al l ps t) : H l = some (.lst (refs (addrOf ps) (List.range t.acts.length))) := by
  rw [acts_list h.len]; exact h.list
section
variable {P : Program} {w : World} {K : PySem.W.Frag} {mg : Str → Option Value} {base : Heap} {C : Adr}
/-- Search and its methods -/
structure Srch (P : Program) (w : World) (K : PySem.W.Frag) (mg : Str → Option Value) (base : Heap) (C : Adr) : Prop where
  init : ∃ f fd, Mk K C.s f ∧ Binds K fd ["self", "many", "wanted", "acts", "goal", "rate"] [] ∧ FnOk P w K mg base CX0 1 f fd ["self", "many", "wanted", "acts", "goal", "rate"] (spSeaInit C)
  best : ∃ f fd, Meth K C.s "best_values" f ∧ Binds K fd ["self"] [] ∧ FnOk P w K mg base CX0 4 f fd ["self"] (spBest C)
  first : ∃ f fd, Meth K C.s "first_rule" f ∧ Binds K fd ["self"] [] ∧ FnOk P w K mg base CX0 3 f fd ["self"] (spFirst C)
  acts : ∃ f fd, Meth K C.s "best_acts" f ∧ Binds K fd ["self", "values"] [] ∧ FnOk P w K mg base CX0 2 f fd ["self", "values"] (spBestActs C)
/-! ### chance_search -/
theorem scCS : FnScope ["self", "acts"] ["self", "acts"] (defScope sCS) := ⟨rfl, rfl, rfl, by decide +kernel, rfl, by decide +kernel, by decide +kernel⟩
def spCS (C : Adr) : Sp := fun vs H Q _ => ∃ (p dx wl al l : Addr) (t : Pn08.Task) (idx : List Nat) (addr : Nat → Addr), vs = [.ref p, .ref l] ∧ H p = some (.ins C.h dx (houF t.states wl al)) ∧ H wl = some (.lst (nv t.goal)) ∧ H l = some (.lst (refs addr idx)) ∧ (∀ k ∈ idx, ActAt C H (addr k) (t.act k)) ∧
  ∀ (H' : Hp) (x : Addr), Same H H' → SeaAt C H' x t wl l idx addr 1 0 → Q (.ref x) H'
theorem ok_cs {f : Addr} {fd : FuncData} (F : Fun K "chance_search" "House.chance_search" sCS f fd) (S : Srch P w K mg base C) (T : Txt K mg C) : FnOk P w K mg base CX0 3 f fd ["self", "acts"] (spCS C) := by
  obtain ⟨fI, fdI, MI, bI, GI⟩ := S.init
  refine F.ok scCS (fun vs H Q E h => ?_) (fun cdv A outer s H vs Q E hr h => ?_)
  · obtain ⟨p, dx, wl, al, l, t, idx, addr, rfl, _⟩ := h
    rfl
  · obtain ⟨p, dx, wl, al, l, t, idx, addr, rfl, hp, hw, hl, ha, k⟩ := h
    refine ⟨_, pss_one (ps_ret (pe_make MI GI hr rfl T.gS bI .nil pass0 (pa_cons (pe_fld (pv 0) rfl) (pa_cons (pe_fld (pv 0) rfl) (pa_cons (pv 1) (pa_cons pe_int (pa_cons pe_int pa_nil))))))), ?_⟩
    refine ⟨_, rfl, p, C.h, dx, _, _, rfl, hp, T.clH, T.hMany, hF_many _ _ _, _, rfl, p, C.h, dx, _, _, rfl, hp, T.clH, T.hWanted, hF_wanted _ _ _, _, rfl, ?_⟩
    intro x dxx nx ndx nex
    refine ⟨x, dxx, wl, l, t.states, 1, 0, rfl, upd_same, fun H1 hx1 kp => ⟨rfl, ?_⟩⟩
    have s1 : Same H H1 := Same.made nx ndx kp
    exact k H1 x s1 ⟨⟨dxx, hx1⟩, s1 _ _ hw, s1 _ _ hl, fun k hk => (ha k hk).same s1⟩
/-- the chances of a house's search -/
theorem sub_sea {H : Hp} {p dx wl al l : Addr} {ps : List Addr} {t : Pn08.Task} (h : SubAt C H p dx wl al l ps t) : ∀ k ∈ List.range t.acts.length, ActAt C H (addrOf ps k) (t.act k) := fun k hk => acts_addr h.acts (List.mem_range.mp hk)
theorem range_sz {t : Pn08.Task} (G : By.Good t) : SeaSz t (List.range t.acts.length) := sea_sz G (by have := G.sz.wf.many; simp; omega) (fun k hk => List.mem_range.mp hk)
theorem sure_sz {t : Pn08.Task} (G : By.Good t) : SeaSz t (By.sureIdx t) := sea_sz G (by
  unfold By.sureIdx
  refine Nat.le_trans (List.length_filter_le _ _) ?_
  have := G.sz.wf.many; simp; omega) (fun k hk => ((By.mem_sureIdx G.sz.wf).mp hk).1)
/-! ### cost_search -/
def sureL (t : Pn08.Task) : List Nat := (List.range t.states).filter fun s => decide (By.bv t s = 1)
theorem mem_sureL {t : Pn08.Task} {s : Nat} : s ∈ sureL t ↔ s < t.states ∧ By.bv t s = 1 := by unfold sureL; simp
theorem sure_idx {t : Pn08.Task} (w : By.Wf t) : (List.range t.acts.length).filter (fun k => (t.act k).outs.all fun x => (sureL t).contains x.1) = By.sureIdx t := by
  unfold By.sureIdx
  refine List.filter_congr fun k hk => ?_
  have hk' := List.mem_range.mp hk
  have m := By.act_mem hk'
  rw [Bool.eq_iff_iff, List.all_eq_true, List.all_eq_true]
  refine forall_congr' fun x => forall_congr' fun hx => ?_
  rw [List.contains_iff_mem, mem_sureL, By.same_bv w]
  exact ⟨fun h => h.2, fun h => ⟨w.outs _ m x hx, h⟩⟩
theorem top_one {n : Nat} {v : Nat → Rat} {tops : List Int} {bottom : Int} (ok : By.ValOk n v tops bottom) {s : Nat} (hs : s < n) : tops.getD s 0 = bottom ↔ v s = 1 := by
  have e := ok.val s hs
  have bp : ((0 : Int) : Rat) < (bottom : Rat) := Rat.intCast_lt_intCast.mpr ok.pos
  simp only [Rat.intCast_zero] at bp
  constructor
  · intro h
    rw [h] at e
    have : (v s - 1) * (bottom : Rat) = 0 := by grind
    rcases Rat.mul_eq_zero.mp this with q | q <;> grind
  · intro h
    rw [h] at e
    have : ((tops.getD s 0 : Int) : Rat) = (bottom : Rat) := by grind
    exact Rat.intCast_inj.mp this
theorem filt_succ (n : Nat) (p : Nat → Bool) : (List.range (n + 1)).filter p = (List.range n).filter p ++ if p n = true then [n] else [] := by
  rw [List.range_succ, List.filter_append]
  cases h : p n <;> simp [h]
abbrev nKS : List Str := ["self", "acts", "chances", "sure", "safe", "state", "act"]
theorem scKS : FnScope nKS ["self", "acts"] (defScope sKS) := ⟨rfl, rfl, rfl, by decide +kernel, rfl, by decide +kernel, by decide +kernel⟩
def spKS (C : Adr) : Sp := fun vs H Q _ => ∃ (p dx wl al l : Addr) (ps : List Addr) (t : Pn08.Task), vs = [.ref p, .ref l] ∧ SubAt C H p dx wl al l ps t ∧ By.Good t ∧
  ∀ (H' : Hp) (x sl : Addr), Same H H' → SeaAt C H' x t wl sl (By.sureIdx t) (addrOf ps) 0 (-1) → Q (.ref x) H'
theorem ok_ks {f fC fO : Addr} {fd fdC fdO : FuncData} (F : Fun K "cost_search" "House.cost_search" sKS f fd) (S : Srch P w K mg base C) (FC : Fun K "chance_search" "House.chance_search" sCS fC fdC) (bC : Binds K fdC ["self", "acts"] []) (mC : Meth K C.h "chance_search" fC)
    (FO : Fun K "leads_only_to" "Act.leads_only_to" sOnly fO fdO) (bO : Binds K fdO ["self", "states"] []) (mO : Meth K C.a "leads_only_to" fO) (T : Txt K mg C) : FnOk P w K mg base CX0 5 f fd ["self", "acts"] (spKS C) := by
  have GC : FnOk P w K mg base CX0 3 fC fdC ["self", "acts"] (spCS C) := ok_cs FC S T
  have GO : FnOk P w K mg base CX0 1 fO fdO ["self", "states"] (spOnly C) := ok_only FO T
  obtain ⟨fI, fdI, MI, bI, GI⟩ := S.init
  obtain ⟨fB, fdB, mB, bB, GB⟩ := S.best
  refine F.ok scKS (fun vs H Q E h => ?_) (fun cdv A outer s H vs Q E hr h => ?_)
  · obtain ⟨p, dx, wl, al, l, ps, t, rfl, _⟩ := h
    rfl
  · obtain ⟨p, dx, wl, al, l, ps, t, rfl, hH, G, k⟩ := h
    have hr1 : Room 1 _ := hr.mono (by decide)
    have hr2 : Room 2 _ := hr.mono (by decide)
    have hr3 : Room 3 _ := hr.mono (by decide)
    refine ⟨_, pss_cons (ps_set (i := 2) scKS.nd rfl (Or.inr rfl) (pe_meth0 (pe_meth (pv 0) T.clH mC GC hr3 bC .nil pass0 (pa_cons (pv 1) pa_nil)) T.clS mB GB hr bB .nil pass0))
      (pss_cons (ps_set (i := 3) scKS.nd rfl (Or.inr rfl) (pe_lc (own := [("state", 5)]) (g := gName 5) (tt := tTest (tOp rEq (tOp (rIxL K) (tFld K (tVar 2) "tops") (tVar 5)) (tFld K (tVar 2) "bottom"))) (te := tVar 5) rfl scKS.nd (pi_range1 rfl T.range (pa_cons (pe_fld (pv 0) rfl) pa_nil))
        (blkOk_by (own := [("state", 5)]) (N := nKS) (sc := defScope sKS) (by decide +kernel)) (fun _ _ _ _ _ => pg_name (i := 5) scKS.nd rfl (Or.inl rfl))
        (fun _ _ _ _ _ => pts_one (pt_cmpR op_eq (pe_ix ix_list (pe_fld (pv 2) rfl) (pv 5) (fun _ _ => rfl)) (pe_fld (pv 2) rfl) (nomark _))) (fun _ _ _ _ _ => pv 5)))
      (pss_cons (ps_setLc (i := 4) (own := [("act", 6)]) (g := gName 6) (tt := tB (tMeth C.a "leads_only_to" (spOnly C) [] E0 (tVar 6) (tCons (tVar 3) tNil))) (te := tVar 6) rfl scKS.nd rfl rfl (sw_true rfl rfl rfl (by decide +kernel)) (pi_list (pv 1))
        (blkOk_by (own := [("act", 6)]) (N := nKS) (sc := defScope sKS) (by decide +kernel)) (fun _ _ _ _ _ => pg_name (i := 6) scKS.nd rfl (Or.inl rfl))
        (fun _ _ _ _ _ => pts_one (pt_val (pe_meth (pv 6) T.clA mO GO hr1 bO .nil pass0 (pa_cons (pv 3) pa_nil)))) (fun _ _ _ _ _ => pv 6))
      (pss_one (ps_ret (pe_make MI GI hr2 rfl T.gS bI .nil pass0 (pa_cons (pe_fld (pv 0) rfl) (pa_cons (pe_fld (pv 0) rfl) (pa_cons (pv 4) (pa_cons pe_int (pa_cons (pe_un un_neg pe_int) pa_nil)))))))))), ?_⟩
    have w' := G.sz.wf
    have lps := hH.len
    have many := w'.many
    have z6 := G.sz.states
    -- chances
    refine ⟨_, rfl, p, dx, _, rfl, hH.ins, hF_cs _ _ _, _, rfl, p, dx, wl, al, l, t, List.range t.acts.length, addrOf ps, rfl, hH.ins, hH.wanted, hH.refs, sub_sea hH, fun H1 x s1 hS => ?_⟩
    obtain ⟨dxx, hx1⟩ := hS.ins
    refine ⟨x, dxx, _, rfl, hx1, sF_best _ _ _ _ _, x, wl, l, t, List.range t.acts.length, addrOf ps, 1, 0, By.probC t w', rfl, hS, range_sz G, by decide, by decide, fun H2 q tops bottom fr s2 hV fI ok no => ?_⟩
    have bc := By.probC_end w' fI (fun s k hk i hi => no s k hk i (List.mem_range.mpr (By.mem_acts_.mp hi).1) hi)
    have ok : By.ValOk t.states (By.bv t) tops bottom := by rw [By.bestC_bv w' bc]; exact ok
    have s12 := s1.trans s2
    obtain ⟨dxV, tl, h3, h4⟩ := id hV
    -- sure
    refine ⟨_, rfl, p, C.h, dx, _, _, rfl, s12 _ _ hH.ins, T.clH, T.hMany, hF_many _ _ _, _, rfl, by omega, by omega, fun D nD => lc_range (lo := 0) (n := (t.states : Int).toNat)
      (fun i H' => Same H2 H' ∧ H' D = some (.lst (nv ((List.range i).filter fun s => decide (By.bv t s = 1))))) ⟨same_new nD, upd_same⟩ ?_ ?_⟩
    · rintro i H' hi ⟨s3, hD⟩
      have hi' : i < t.states := by omega
      have z0 : (0 : Int) + (i : Int) = (i : Int) := by omega
      refine ⟨rfl, ?_⟩
      refine ⟨_, rfl, q, C.v, dxV, _, _, rfl, s3 _ _ h3, T.clV, T.vTops, vF_tops _ _, _, rfl, tl, _, _, .int (tops.getD i 0), rfl, rfl, SqL.of (s3 _ _ h4), (by rw [z0]; exact iv_at (by rw [ok.len]; exact hi')), _, rfl, q, C.v, dxV, _, _, rfl, s3 _ _ h3, T.clV, T.vBottom, vF_bottom _ _, rfl, _, rfl, ?_⟩
      have to := top_one ok hi'
      refine ite2 (fun c => ?_) (fun c => ?_)
      · have e : By.bv t i = 1 := to.mp (V.int.inj (of_decide_eq_true c))
        refine ⟨_, rfl, _, hD, ?_, same_upd s3 nD, ?_⟩
        · rw [List.length_map]
          refine small (Nat.le_trans (List.length_filter_le _ _) ?_)
          simp; omega
        · rw [upd_same, filt_succ, e, z0]
          simp [nv]
      · have e : ¬ By.bv t i = 1 := fun x => c (decide_eq_true (by rw [to.mpr x]))
        refine ⟨s3, ?_⟩
        rw [hD, filt_succ]
        simp [e]
    · rintro H3 ⟨s3, hD⟩
      have hD : H3 D = some (.lst (nv (sureL t))) := by rw [hD]; unfold sureL; simp
      have s123 := s12.trans s3
      -- safe
      refine ⟨_, rfl, l, rfl, ⟨_, SqL.of (s123 _ _ hH.list)⟩, fun D2 nD2 => lc_list (K := K) (a := l) (xs := ps.map V.ref)
        (fun i H' => Same H3 H' ∧ H' D2 = some (.lst (refs (addrOf ps) ((List.range i).filter fun k => (t.act k).outs.all fun x => (sureL t).contains x.1)))) ⟨same_new nD2, upd_same⟩ (fun i H' _ q => SqL.of (q.1 _ _ (s123 _ _ hH.list))) ?_ ?_⟩
      · rintro i y H' hi ⟨s4, hD2⟩
        have hlt : i < ps.length := by have := (List.getElem?_eq_some_iff.mp hi).1; simpa using this
        have hia : i < t.acts.length := by omega
        have ey : y = V.ref (addrOf ps i) := by
          rw [List.getElem?_map, List.getElem?_eq_getElem hlt] at hi
          unfold addrOf
          rw [List.getD_eq_getElem?_getD, List.getElem?_eq_getElem hlt]
          exact (Option.some.inj hi).symm
        subst ey
        have hA := (acts_addr hH.acts hia).same (s123.trans s4)
        obtain ⟨nn, dxa, dw, h1, h2⟩ := id hA
        refine ⟨rfl, _, rfl, addrOf ps i, dxa, _, rfl, h1, aF_only _ _ _, _, rfl, addrOf ps i, D, t.act i, sureL t, rfl, hA, s4 _ _ hD, by have := G.outs _ (By.act_mem hia); omega, fun H5 s5 => ⟨_, rfl, ?_⟩⟩
        refine ite2 (fun c => ?_) (fun c => ?_)
        · refine ⟨_, rfl, _, s5 _ _ hD2, ?_, same_upd (s4.trans s5) nD2, ?_⟩
          · rw [List.length_map]
            refine small (Nat.le_trans (List.length_filter_le _ _) ?_)
            simp; omega
          · rw [upd_same, filt_succ, if_pos c, refs_app]
        · refine ⟨s4.trans s5, ?_⟩
          rw [s5 _ _ hD2, filt_succ, if_neg c, List.append_nil]
      · rintro H4 ⟨s4, hD2⟩
        rw [List.length_map, lps, sure_idx w'] at hD2
        have s14 := s123.trans s4
        refine ⟨_, rfl, p, C.h, dx, _, _, rfl, s14 _ _ hH.ins, T.clH, T.hMany, hF_many _ _ _, _, rfl, p, C.h, dx, _, _, rfl, s14 _ _ hH.ins, T.clH, T.hWanted, hF_wanted _ _ _, _, rfl, 1, rfl, ?_⟩
        intro x dxx nx ndx nex
        refine ⟨x, dxx, wl, D2, t.states, 0, -1, rfl, upd_same, fun H5 hx5 kp => ⟨rfl, ?_⟩⟩
        have s5 : Same H4 H5 := Same.made nx ndx kp
        have s15 := s14.trans s5
        exact k H5 x D2 s15 ⟨⟨dxx, hx5⟩, s15 _ _ hH.wanted, s5 _ _ hD2, fun k hk => (acts_addr hH.acts ((By.mem_sureIdx w').mp hk).1).same s15⟩
end
end ByH

set_option maxRecDepth 100000
set_option maxHeartbeats 2000000
/-! ByCo: House: best_chance, best_cost, chance, cost. -/
namespace ByH
open PySem PySem.Spec PyProof.Rows L2 ByR
theorem iv_nv (l : List Nat) : iv (l.map fun (n : Nat) => (n : Int)) = nv l := by simp [iv, nv]
section
variable {P : Program} {w : World} {K : PySem.W.Frag} {mg : Str → Option Value} {base : Heap} {C : Adr}
/-- the searches of a house -/
structure Hou (P : Program) (w : World) (K : PySem.W.Frag) (mg : Str → Option Value) (base : Heap) (C : Adr) : Prop where
  cs : ∃ f fd, Meth K C.h "chance_search" f ∧ Binds K fd ["self", "acts"] [] ∧ FnOk P w K mg base CX0 3 f fd ["self", "acts"] (spCS C)
  ks : ∃ f fd, Meth K C.h "cost_search" f ∧ Binds K fd ["self", "acts"] [] ∧ FnOk P w K mg base CX0 5 f fd ["self", "acts"] (spKS C)
/-! ### best_chance -/
abbrev nBC : List Str := ["self", "acts", "state", "chances"]
theorem scBC : FnScope nBC ["self", "acts", "state"] (defScope sBC) := ⟨rfl, rfl, rfl, by decide +kernel, rfl, by decide +kernel, by decide +kernel⟩
def spBC (C : Adr) : Sp := fun vs H Q _ => ∃ (p dx wl al l : Addr) (ps : List Addr) (t : Pn08.Task) (st : Nat), vs = [.ref p, .ref l, .int (st : Int)] ∧ SubAt C H p dx wl al l ps t ∧ By.Good t ∧ st < t.states ∧
  ∀ (H' : Hp) (d : Addr), Same H H' → H d = none → H' d = some (.lst (nv (Pn08.row (Pn08.val (Pn08.chances t) st)))) → Q (.ref d) H'
theorem ok_bc {f fL : Addr} {fd fdL : FuncData} (F : Fun K "best_chance" "House.best_chance" sBC f fd) (S : Srch P w K mg base C) (S2 : Hou P w K mg base C)
    (FL : Fun K "lowest_terms" "lowest_terms" sLow fL fdL) (bL : Binds K fdL ["top", "bottom"] []) (gL : mg "lowest_terms" = some (.ref fL)) (kL : PySem.W.keepIn K (.ref fL) = true) (T : Txt K mg C) : FnOk P w K mg base CX0 5 f fd ["self", "acts", "state"] (spBC C) := by
  have GL : FnOk P w K mg base CX0 1 fL fdL ["top", "bottom"] spLow := ok_low FL
  obtain ⟨fC, fdC, mC, bC, GC⟩ := S2.cs
  obtain ⟨fB, fdB, mB, bB, GB⟩ := S.best
  refine F.ok scBC (fun vs H Q E h => ?_) (fun cdv A outer s H vs Q E hr h => ?_)
  · obtain ⟨p, dx, wl, al, l, ps, t, st, rfl, _⟩ := h
    rfl
  · obtain ⟨p, dx, wl, al, l, ps, t, st, rfl, hH, G, hst, k⟩ := h
    have hr1 : Room 1 _ := hr.mono (by decide)
    have hr3 : Room 3 _ := hr.mono (by decide)
    refine ⟨_, pss_cons (ps_set (i := 3) scBC.nd rfl (Or.inl rfl) (pe_meth0 (pe_meth (pv 0) T.clH mC GC hr3 bC .nil pass0 (pa_cons (pv 1) pa_nil)) T.clS mB GB hr bB .nil pass0))
      (pss_one (ps_ret (pe_call GL hr1 rfl gL kL bL .nil pass0 (pa_cons (pe_ix ix_list (pe_fld (pv 3) rfl) (pv 2) (fun _ _ => rfl)) (pa_cons (pe_fld (pv 3) rfl) pa_nil))))), ?_⟩
    have w' := G.sz.wf
    refine ⟨_, rfl, p, dx, _, rfl, hH.ins, hF_cs _ _ _, _, rfl, p, dx, wl, al, l, t, List.range t.acts.length, addrOf ps, rfl, hH.ins, hH.wanted, hH.refs, sub_sea hH, fun H1 x s1 hS => ?_⟩
    obtain ⟨dxx, hx1⟩ := hS.ins
    refine ⟨x, dxx, _, rfl, hx1, sF_best _ _ _ _ _, x, wl, l, t, List.range t.acts.length, addrOf ps, 1, 0, By.probC t w', rfl, hS, range_sz G, by decide, by decide, fun H2 q tops bottom fr s2 hV fI ok no => ?_⟩
    have bc := By.probC_end w' fI (fun s k hk i hi => no s k hk i (List.mem_range.mpr (By.mem_acts_.mp hi).1) hi)
    have ok : By.ValOk t.states (By.bv t) tops bottom := by rw [By.bestC_bv w' bc]; exact ok
    have s12 := s1.trans s2
    obtain ⟨dxV, tl, h3, h4⟩ := id hV
    have hv := ok.val st hst
    have bp : ((0 : Int) : Rat) < (bottom : Rat) := Rat.intCast_lt_intCast.mpr ok.pos
    have nnv : 0 ≤ By.bv t st := By.bv_nn w' st
    have nn : 0 ≤ tops.getD st 0 := by
      have : ((0 : Int) : Rat) ≤ ((tops.getD st 0 : Int) : Rat) := by
        rw [hv]
        simp only [Rat.intCast_zero] at bp ⊢
        exact Rat.mul_nonneg nnv (by grind)
      exact Rat.intCast_le_intCast.mp this
    have et : ((tops.getD st 0).toNat : Int) = tops.getD st 0 := by omega
    have eb : (bottom.toNat : Int) = bottom := by have := ok.pos; omega
    have lr := By.low_row nn ok.pos (By.val_ok (By.chances_ok w') st) (show ((tops.getD st 0 : Int) : Rat) = By.R (Pn08.val (Pn08.chances t) st) * bottom from hv)
    refine ⟨_, rfl, q, C.v, dxV, _, _, rfl, h3, T.clV, T.vTops, vF_tops _ _, _, rfl, tl, _, _, .int (tops.getD st 0), rfl, rfl, SqL.of h4, iv_at (by rw [ok.len]; omega), _, rfl, q, C.v, dxV, _, _, rfl, h3, T.clV, T.vBottom, vF_bottom _ _, (tops.getD st 0).toNat, bottom.toNat, by rw [et, eb]; rfl, by have := ok.pos; omega, by
      have := ok.fitB
      have h2 : bottom.toNat = bottom.natAbs := by have := ok.pos; omega
      rw [h2]; exact Nat.lt_of_lt_of_le this (Nat.pow_le_pow_right (by decide) (by decide)), fun H3 d s3 nd hd => ?_⟩
    rw [et, eb, lr] at hd
    exact k H3 d (s12.trans s3) (s12.free nd) (by rw [hd, ← iv_nv])
/-! ### best_cost -/
abbrev nBK : List Str := ["self", "acts", "state", "gains"]
theorem scBK : FnScope nBK ["self", "acts", "state"] (defScope sBK) := ⟨rfl, rfl, rfl, by decide +kernel, rfl, by decide +kernel, by decide +kernel⟩
def spBK (C : Adr) : Sp := fun vs H Q _ => ∃ (p dx wl al l : Addr) (ps : List Addr) (t : Pn08.Task) (st : Nat) (qq : Pn08.Q), vs = [.ref p, .ref l, .int (st : Int)] ∧ SubAt C H p dx wl al l ps t ∧ By.Good t ∧ st < t.states ∧ (Pn08.costs t).getD st none = some qq ∧
  ∀ (H' : Hp) (d : Addr), Same H H' → H d = none → H' d = some (.lst (nv (Pn08.row qq))) → Q (.ref d) H'
theorem ok_bk {f fL : Addr} {fd fdL : FuncData} (F : Fun K "best_cost" "House.best_cost" sBK f fd) (S : Srch P w K mg base C) (S2 : Hou P w K mg base C)
    (FL : Fun K "lowest_terms" "lowest_terms" sLow fL fdL) (bL : Binds K fdL ["top", "bottom"] []) (gL : mg "lowest_terms" = some (.ref fL)) (kL : PySem.W.keepIn K (.ref fL) = true) (T : Txt K mg C) : FnOk P w K mg base CX0 6 f fd ["self", "acts", "state"] (spBK C) := by
  have GL : FnOk P w K mg base CX0 1 fL fdL ["top", "bottom"] spLow := ok_low FL
  obtain ⟨fC, fdC, mC, bC, GC⟩ := S2.ks
  obtain ⟨fB, fdB, mB, bB, GB⟩ := S.best
  refine F.ok scBK (fun vs H Q E h => ?_) (fun cdv A outer s H vs Q E hr h => ?_)
  · obtain ⟨p, dx, wl, al, l, ps, t, st, qq, rfl, _⟩ := h
    rfl
  · obtain ⟨p, dx, wl, al, l, ps, t, st, qq, rfl, hH, G, hst, eq, k⟩ := h
    have hr1 : Room 1 _ := hr.mono (by decide)
    have hr4 : Room 4 _ := hr.mono (by decide)
    refine ⟨_, pss_cons (ps_set (i := 3) scBK.nd rfl (Or.inl rfl) (pe_meth0 (pe_meth (pv 0) T.clH mC GC hr bC .nil pass0 (pa_cons (pv 1) pa_nil)) T.clS mB GB hr4 bB .nil pass0))
      (pss_one (ps_ret (pe_call GL hr1 rfl gL kL bL .nil pass0 (pa_cons (pe_op op_sub pe_int (pe_ix ix_list (pe_fld (pv 3) rfl) (pv 2) (fun _ _ => rfl))) (pa_cons (pe_fld (pv 3) rfl) pa_nil))))), ?_⟩
    have w' := G.sz.wf
    refine ⟨_, rfl, p, dx, _, rfl, hH.ins, hF_ks _ _ _, _, rfl, p, dx, wl, al, l, ps, t, rfl, hH, G, fun H1 x sl s1 hS => ?_⟩
    obtain ⟨dxx, hx1⟩ := hS.ins
    refine ⟨x, dxx, _, rfl, hx1, sF_best _ _ _ _ _, x, wl, sl, t, By.sureIdx t, addrOf ps, 0, -1, By.probK t w', rfl, hS, sure_sz G, by decide, by decide, fun H2 q tops bottom fr s2 hV fI ok no => ?_⟩
    have bk := By.probK_end w' fI no
    have ok : By.ValOk t.states (fun s => - By.kv t fr s) tops bottom := ok
    have s12 := s1.trans s2
    obtain ⟨dxV, tl, h3, h4⟩ := id hV
    have ct := By.costs_told w' bk st
    rw [eq] at ct
    have hv := ok.val st hst
    have bp : ((0 : Int) : Rat) < (bottom : Rat) := Rat.intCast_lt_intCast.mpr ok.pos
    have nnk : 0 ≤ By.kv t fr st := ((By.costs_by w' bk.rule.valid).bounds w' bk.rule.valid (By.chances_by w' bk.rule.valid) st).1
    have hv2 : ((0 - tops.getD st 0 : Int) : Rat) = By.kv t fr st * bottom := by
      rw [Rat.intCast_sub, hv]; simp only [Rat.intCast_zero]; grind
    have nn : 0 ≤ 0 - tops.getD st 0 := by
      have : ((0 : Int) : Rat) ≤ ((0 - tops.getD st 0 : Int) : Rat) := by
        rw [hv2]
        simp only [Rat.intCast_zero] at bp ⊢
        exact Rat.mul_nonneg nnk (by grind)
      exact Rat.intCast_le_intCast.mp this
    have et : ((0 - tops.getD st 0).toNat : Int) = 0 - tops.getD st 0 := by omega
    have eb : (bottom.toNat : Int) = bottom := by have := ok.pos; omega
    have ekv : By.R qq = By.kv t fr st := ct.2.2
    have lr := By.low_row nn ok.pos (show By.Ok qq from ct.2.1) (by rw [hv2, ekv])
    refine ⟨_, rfl, q, C.v, dxV, _, _, rfl, h3, T.clV, T.vTops, vF_tops _ _, _, rfl, tl, _, _, .int (tops.getD st 0), rfl, rfl, SqL.of h4, iv_at (by rw [ok.len]; omega), _, _, rfl, rfl, _, rfl, q, C.v, dxV, _, _, rfl, h3, T.clV, T.vBottom, vF_bottom _ _, (0 - tops.getD st 0).toNat, bottom.toNat, by rw [et, eb]; rfl, by have := ok.pos; omega, by
      have := ok.fitB
      have h2 : bottom.toNat = bottom.natAbs := by have := ok.pos; omega
      rw [h2]; exact Nat.lt_of_lt_of_le this (Nat.pow_le_pow_right (by decide) (by decide)), fun H3 d s3 nd hd => ?_⟩
    rw [et, eb, lr] at hd
    exact k H3 d (s12.trans s3) (s12.free nd) (by rw [hd, ← iv_nv])
/-! ### chance -/
theorem scChance : FnScope ["self", "state"] ["self", "state"] (defScope sChance) := ⟨rfl, rfl, rfl, by decide +kernel, rfl, by decide +kernel, by decide +kernel⟩
def outV (a : Pn08.Ans) : List V := iv (Pn08Neutral.out a)
/-- what a question answers -/
def spAsk (C : Adr) (c : Nat → Pn08.Call) : Sp := fun vs H Q _ => ∃ (p dx wl al : Addr) (ps : List Addr) (t : Pn08.Task) (st : Nat), vs = [.ref p, .int (st : Int)] ∧ HouAt C H p dx wl al ps t ∧ By.Good t ∧
  ∀ (H' : Hp) (d : Addr), Same H H' → H d = none → H' d = some (.lst (outV (Pn08.step ⟨t⟩ (c st)).2)) → Q (.ref d) H'
theorem out_row (v : Int) (l : List Nat) : outV ⟨v, l⟩ = V.int v :: nv l := by
  show V.int v :: iv (l.map fun (n : Nat) => (n : Int)) = _
  rw [iv_nv]
/-- the answers of a house about some acts -/
structure Bst (P : Program) (w : World) (K : PySem.W.Frag) (mg : Str → Option Value) (base : Heap) (C : Adr) : Prop where
  bc : ∃ f fd, Meth K C.h "best_chance" f ∧ Binds K fd ["self", "acts", "state"] [] ∧ FnOk P w K mg base CX0 5 f fd ["self", "acts", "state"] (spBC C)
  bk : ∃ f fd, Meth K C.h "best_cost" f ∧ Binds K fd ["self", "acts", "state"] [] ∧ FnOk P w K mg base CX0 6 f fd ["self", "acts", "state"] (spBK C)
theorem ok_chance {f : Addr} {fd : FuncData} (F : Fun K "chance" "House.chance" sChance f fd) (B : Bst P w K mg base C) (T : Txt K mg C) : FnOk P w K mg base CX0 6 f fd ["self", "state"] (spAsk C Pn08.Call.chance) := by
  obtain ⟨fB, fdB, mB, bB, GB⟩ := B.bc
  obtain ⟨tn, gn⟩ := T.cNoState
  refine F.ok scChance (fun vs H Q E h => ?_) (fun cdv A outer s H vs Q E hr h => ?_)
  · obtain ⟨p, dx, wl, al, ps, t, st, rfl, _⟩ := h
    rfl
  · obtain ⟨p, dx, wl, al, ps, t, st, rfl, hH, G, k⟩ := h
    refine ⟨_, pss_cons (ps_if (pt_cmpR op_ge (pv 1) (pe_fld (pv 0) rfl) (nomark _)) (pss_one (ps_ret (pe_lst (pa_cons (pe_glob (v := .int (-2)) rfl gn ⟨_, rfl⟩) pa_nil)))) pss_nil)
      (pss_one (ps_ret (pe_op op_cat (pe_lst (pa_cons pe_int pa_nil)) (pe_meth (pv 0) T.clH mB GB hr bB .nil pass0 (pa_cons (pe_fld (pv 0) rfl) (pa_cons (pv 1) pa_nil)))))), ?_⟩
    refine ⟨_, rfl, _, rfl, p, C.h, dx, _, _, rfl, hH.ins, T.clH, T.hMany, hF_many _ _ _, _, _, rfl, rfl, _, rfl, ?_⟩
    refine ite2 (fun c => ?_) (fun c => ?_)
    · have c' : t.states ≤ st := by have := of_decide_eq_true c; omega
      refine ⟨by show 1 ≤ sizeLine; decide, fun d nd => k _ d (same_new nd) nd ?_⟩
      rw [upd_same]
      show _ = some (HO.lst (outV (Pn08.step ⟨t⟩ (.chance st)).2))
      unfold Pn08.step
      simp only [c', if_true]; rfl
    · have c' : ¬ t.states ≤ st := fun x => c (decide_eq_true (by omega))
      refine ⟨by show 1 ≤ sizeLine; decide, fun l0 nl0 => ?_⟩
      have s1 : Same H (upd H l0 (.lst [V.int 0])) := same_new nl0
      refine ⟨_, rfl, p, dx, _, rfl, s1 _ _ hH.ins, hF_bc _ _ _, _, rfl, p, C.h, dx, _, _, rfl, s1 _ _ hH.ins, T.clH, T.hActs, hF_acts _ _ _, _, rfl, p, dx, wl, al, al, ps, t, st, rfl, hH.sub.same s1, G, by omega, fun H2 d s2 nd hd => ?_⟩
      refine ⟨l0, d, _, _, rfl, rfl, s2 _ _ upd_same, hd, by show 1 + _ ≤ sizeLine; simp [nv, Pn08.row]; decide, fun r nr => ?_⟩
      refine k _ r ((s1.trans s2).trans (same_new nr)) ((s1.trans s2).free nr) ?_
      rw [upd_same]
      show _ = some (HO.lst (outV (Pn08.step ⟨t⟩ (.chance st)).2))
      unfold Pn08.step
      simp only [c', if_false]
      rw [out_row]; rfl
/-! ### cost -/
theorem scCost : FnScope ["self", "state"] ["self", "state"] (defScope sCost) := ⟨rfl, rfl, rfl, by decide +kernel, rfl, by decide +kernel, by decide +kernel⟩
/-- a fraction beside [1, 1] -/
theorem dp_row {H : Hp} {d : Addr} {q : Pn08.Q} (h : H d = some (.lst (nv (Pn08.row q)))) : Dp K H (.ref d) (.list [.int (q.n.toNat : Int), .int (q.d : Int)]) := .lst (SqL.of h) (.cons (.int _) (.cons (.int _) .nil))
theorem dp_one {H : Hp} {d : Addr} (h : H d = some (.lst [V.int 1, V.int 1])) : Dp K H (.ref d) (.list [.int 1, .int 1]) := .lst (SqL.of h) (.cons (.int _) (.cons (.int _) .nil))
theorem eqv_row {q : Pn08.Q} (ok : By.Ok q) : (!PyData.eqv (.list [.int (q.n.toNat : Int), .int (q.d : Int)]) (.list [.int 1, .int 1])) = true ↔ ¬ By.R q = 1 := by
  rw [← By.row_one ok]
  unfold Pn08.row
  simp only [PyData.eqv, PyData.eqvAll, Bool.not_eq_true', Bool.and_true, List.cons.injEq, and_true, Bool.and_eq_false_imp, beq_iff_eq, beq_eq_false_iff_ne]
  omega
theorem ok_cost {f : Addr} {fd : FuncData} (F : Fun K "cost" "House.cost" sCost f fd) (B : Bst P w K mg base C) (T : Txt K mg C) : FnOk P w K mg base CX0 7 f fd ["self", "state"] (spAsk C Pn08.Call.cost) := by
  obtain ⟨fB, fdB, mB, bB, GB⟩ := B.bc
  obtain ⟨fK, fdK, mK, bK, GK⟩ := B.bk
  obtain ⟨tn, gn⟩ := T.cNoState
  obtain ⟨tu, gu⟩ := T.cNotSure
  refine F.ok scCost (fun vs H Q E h => ?_) (fun cdv A outer s H vs Q E hr h => ?_)
  · obtain ⟨p, dx, wl, al, ps, t, st, rfl, _⟩ := h
    rfl
  · obtain ⟨p, dx, wl, al, ps, t, st, rfl, hH, G, k⟩ := h
    have hr5 : Room 5 _ := hr.mono (by decide)
    refine ⟨_, pss_cons (ps_if (pt_cmpR op_ge (pv 1) (pe_fld (pv 0) rfl) (nomark _)) (pss_one (ps_ret (pe_lst (pa_cons (pe_glob (v := .int (-2)) rfl gn ⟨_, rfl⟩) pa_nil)))) pss_nil)
      (pss_cons (ps_if (pt_cmpR (op_neD hr.units) (pe_meth (pv 0) T.clH mB GB hr5 bB .nil pass0 (pa_cons (pe_fld (pv 0) rfl) (pa_cons (pv 1) pa_nil))) (pe_lst (pa_cons pe_int (pa_cons pe_int pa_nil))) (nomark _)) (pss_one (ps_ret (pe_lst (pa_cons (pe_glob (v := .int (-6)) rfl gu ⟨_, rfl⟩) pa_nil)))) pss_nil)
      (pss_one (ps_ret (pe_op op_cat (pe_lst (pa_cons pe_int pa_nil)) (pe_meth (pv 0) T.clH mK GK hr bK .nil pass0 (pa_cons (pe_fld (pv 0) rfl) (pa_cons (pv 1) pa_nil))))))), ?_⟩
    refine ⟨_, rfl, _, rfl, p, C.h, dx, _, _, rfl, hH.ins, T.clH, T.hMany, hF_many _ _ _, _, _, rfl, rfl, _, rfl, ?_⟩
    refine ite2 (fun c => ?_) (fun c => ?_)
    · have c' : t.states ≤ st := by have := of_decide_eq_true c; omega
      refine ⟨by show 1 ≤ sizeLine; decide, fun d nd => k _ d (same_new nd) nd ?_⟩
      rw [upd_same]
      show _ = some (HO.lst (outV (Pn08.step ⟨t⟩ (.cost st)).2))
      unfold Pn08.step
      simp only [c', if_true]; rfl
    · have c' : ¬ t.states ≤ st := fun x => c (decide_eq_true (by omega))
      have w' := G.sz.wf
      refine ⟨_, rfl, p, dx, _, rfl, hH.ins, hF_bc _ _ _, _, rfl, p, C.h, dx, _, _, rfl, hH.ins, T.clH, T.hActs, hF_acts _ _ _, _, rfl, p, dx, wl, al, al, ps, t, st, rfl, hH.sub, G, by omega, fun H1 d s1 nd hd => ?_⟩
      refine ⟨by show 2 ≤ sizeLine; decide, fun e ne => ?_⟩
      have s2 : Same H1 (upd H1 e (.lst [V.int 1, V.int 1])) := same_new ne
      have s12 := s1.trans s2
      refine ⟨_, _, dp_row (s2 _ _ hd), dp_one upd_same, rfl, rfl, _, rfl, ?_⟩
      have er := eqv_row (By.val_ok (By.chances_ok w') st)
      have ebv : By.R (Pn08.val (Pn08.chances t) st) = By.bv t st := rfl
      rw [ebv] at er
      obtain ⟨kf, bkf, ekf⟩ := By.costs_best w'
      have ct := By.costs_told w' bkf st
      refine ite2 (fun c2 => ?_) (fun c2 => ?_)
      · have c2' : ¬ By.bv t st = 1 := er.mp c2
        refine ⟨by show 1 ≤ sizeLine; decide, fun d nd => k _ d (s12.trans (same_new nd)) (s12.free nd) ?_⟩
        rw [upd_same]
        show _ = some (HO.lst (outV (Pn08.step ⟨t⟩ (.cost st)).2))
        have en : (Pn08.costs t).getD st none = none := by
          cases e : (Pn08.costs t).getD st none with
          | none => rfl
          | some q => rw [e] at ct; exact absurd (ct.1.mp rfl) c2'
        unfold Pn08.step
        simp only [c', if_false, en]; rfl
      · have c2' : By.bv t st = 1 := Classical.byContradiction fun x => c2 (er.mpr x)
        obtain ⟨qq, eq⟩ := Option.isSome_iff_exists.mp (ct.1.mpr c2')
        refine ⟨by show 1 ≤ sizeLine; decide, fun l0 nl0 => ?_⟩
        have s3 : Same H (upd (upd H1 e (.lst [V.int 1, V.int 1])) l0 (.lst [V.int 0])) := s12.trans (same_new nl0)
        refine ⟨_, rfl, p, dx, _, rfl, s3 _ _ hH.ins, hF_bk _ _ _, _, rfl, p, C.h, dx, _, _, rfl, s3 _ _ hH.ins, T.clH, T.hActs, hF_acts _ _ _, _, rfl, p, dx, wl, al, al, ps, t, st, qq, rfl, hH.sub.same s3, G, by omega, eq, fun H4 d4 s4 nd4 hd4 => ?_⟩
        refine ⟨l0, d4, _, _, rfl, rfl, s4 _ _ upd_same, hd4, by show 1 + _ ≤ sizeLine; simp [nv, Pn08.row]; decide, fun r nr => ?_⟩
        refine k _ r ((s3.trans s4).trans (same_new nr)) ((s3.trans s4).free nr) ?_
        rw [upd_same]
        show _ = some (HO.lst (outV (Pn08.step ⟨t⟩ (.cost st)).2))
        unfold Pn08.step
        simp only [c', if_false, eq]
        rw [out_row]; rfl
end
end ByH

set_option maxRecDepth 100000
set_option maxHeartbeats 2000000
/-! ByLk: told_rule, House.likely, House.cheap. -/
namespace ByH
open PySem PySem.Spec PyProof.Rows L2 ByR
abbrev sTold : Stmt := top 27
abbrev nTold : List Str := ["rule", "told", "state"]
theorem scTold : FnScope nTold ["rule"] (defScope sTold) := ⟨rfl, rfl, rfl, by decide +kernel, rfl, by decide +kernel, by decide +kernel⟩
def rowM (rl : By.RL) (o : List Nat) : List Int := (rl.length : Int) :: o.flatMap fun (s : Nat) => [(s : Int), (((By.lookR rl s).getD 0 : Nat) : Int)]
theorem rowM_len (rl : By.RL) : ∀ (o : List Nat), (rowM rl o).length = 1 + 2 * o.length
  | [] => rfl
  | s :: o => by
    have := rowM_len rl o
    unfold rowM at this ⊢
    simp only [List.length_cons, List.flatMap_cons, List.length_append, List.length_nil] at *
    omega
theorem rowM_app (rl : By.RL) (o : List Nat) (s : Nat) : rowM rl (o ++ [s]) = rowM rl o ++ [(s : Int), (((By.lookR rl s).getD 0 : Nat) : Int)] := by
  unfold rowM; simp
def spTold (C : Adr) : Sp := fun vs H Q _ => ∃ (d : Addr) (addr : Nat → Addr) (rl : By.RL), vs = [.ref d] ∧ H d = some (.dK (rK addr rl)) ∧ rl.length ≤ 60 ∧ (∀ x ∈ rl, NoAt C H (addr x.2) x.2) ∧
  ∀ (H' : Hp) (q : Addr) (o : List Nat), Same H H' → H q = none → o.Perm (By.keysR rl) → o.Pairwise (· ≤ ·) → H' q = some (.lst (iv (rowM rl o))) → Q (.ref q) H'
section
variable {P : Program} {w : World} {K : PySem.W.Frag} {mg : Str → Option Value} {base : Heap} {C : Adr}
theorem ok_told {f : Addr} {fd : FuncData} (F : Fun K "told_rule" "told_rule" sTold f fd) (T : Txt K mg C) : FnOk P w K mg base CX0 1 f fd ["rule"] (spTold C) := by
  refine F.ok scTold (fun vs H Q E h => ?_) (fun cdv A outer s H vs Q E hr h => ?_)
  · obtain ⟨d, addr, rl, rfl, _⟩ := h
    rfl
  · obtain ⟨d, addr, rl, rfl, hd, hlen, nos, k⟩ := h
    have hu := hu_of hr
    refine ⟨_, pss_cons (ps_set (i := 1) scTold.nd rfl (Or.inl rfl) (pe_lst (pa_cons (pe_callB call_lenD (by rfl) T.len PySem.boot_len (pa_cons (pv 0) pa_nil)) pa_nil)))
      (pss_cons (ps_for PassesOwn.never rfl (pi_list (pe_callB (call_sortedDI rfl) (by rfl) T.sorted (by decide +kernel) (pa_cons (pv 0) pa_nil))) (pg_name (i := 2) scTold.nd rfl (Or.inl rfl))
        (pss_cons (ps_expr (pe_bm PySem.F.plainAttrs_list PySem.F.slot_list_append PySem.F.type_list_append mt_append (pv 1) (pa_cons (pv 2) pa_nil)))
        (pss_one (ps_expr (pe_bm PySem.F.plainAttrs_list PySem.F.slot_list_append PySem.F.type_list_append mt_append (pv 1) (pa_cons (pe_fld (pe_dget hu (pv 0) (pv 2) (fun _ _ => rfl)) rfl) pa_nil))))))
      (pss_one (ps_ret (pv 1)))), ?_⟩
    refine ⟨_, rfl, d, _, rfl, hd, by show 1 ≤ sizeLine; decide, fun tl ntl => ?_⟩
    have s1 : Same H (upd H tl (.lst [V.int (((rK addr rl).length : Nat) : Int)])) := same_new ntl
    refine ⟨_, rfl, d, _, (By.keysR rl).map (fun (n : Nat) => (n : Int)), rfl, .inl (s1 _ _ hd), by unfold rK By.keysR; simp [List.map_map, Function.comp_def], by rw [List.length_map]; unfold By.keysR; rw [List.length_map]; omega, fun ys ls hperm hsrt nls => ?_⟩
    obtain ⟨o, rfl, ho⟩ : ∃ o : List Nat, ys = o.map (fun (n : Nat) => (n : Int)) ∧ o.Perm (By.keysR rl) := by
      refine ⟨ys.map Int.toNat, ?_, ?_⟩
      · rw [List.map_map]
        refine ((List.map_congr_left fun x hx => ?_).trans (List.map_id ys)).symm
        obtain ⟨n, _, rfl⟩ := List.mem_map.mp (hperm.mem_iff.mp hx)
        simp
      · have := hperm.map Int.toNat
        rw [List.map_map] at this
        have e : (Int.toNat ∘ fun (n : Nat) => (n : Int)) = id := by funext n; simp
        rw [e, List.map_id] at this
        exact this
    have hsrt' : o.Pairwise (· ≤ ·) := by
      rw [List.pairwise_map] at hsrt
      exact hsrt.imp fun h => by omega
    have eo : ((o.map (fun (n : Nat) => (n : Int))).map V.int) = nv o := by rw [List.map_map]; rfl
    rw [eo]
    have s2 := s1.trans (same_new (o := .lst (nv o)) nls)
    have nlt : tl ≠ ls := ne_of_none (show (upd H tl (.lst [V.int (((rK addr rl).length : Nat) : Int)])) tl = some _ from upd_same) nls
    have lo : o.length ≤ 60 := by rw [ho.length_eq]; unfold By.keysR; rw [List.length_map]; exact hlen
    have h0 : (upd (upd H tl (.lst [V.int (((rK addr rl).length : Nat) : Int)])) ls (.lst (nv o))) tl = some (.lst (iv (rowM rl (o.take 0)))) := by
      rw [upd_ne nlt, upd_same, rK_len]; rfl
    refine ⟨ls, rfl, ⟨_, SqL.of upd_same⟩, for_list (K := K) (a := ls) (xs := nv o)
      (fun i σ H' => Same H H' ∧ H' ls = some (.lst (nv o)) ∧ ∃ v : Option V, σ = [some (.ref d), some (.ref tl), v] ∧ H' tl = some (.lst (iv (rowM rl (o.take i)))))
      ⟨s2, upd_same, none, rfl, h0⟩ (fun i σ H' _ q => SqL.of q.2.1) ?_ ?_⟩
    · rintro i y σ H' hi ⟨s3, hls, v, rfl, htl⟩
      obtain ⟨n, hn, rfl⟩ := nv_at hi
      have hil : i < o.length := (List.getElem?_eq_some_iff.mp hn).1
      have nm : n ∈ By.keysR rl := ho.mem_iff.mp (List.mem_of_getElem? hn)
      obtain ⟨kk, hkk⟩ := By.lookR_in nm
      obtain ⟨dx, a, dw, h1⟩ := (nos _ (By.lookR_some hkk)).same s3
      have sz : (iv (rowM rl (o.take i))).length ≤ 200 := by
        rw [List.length_map, rowM_len, List.length_take]; omega
      refine ⟨_, rfl, .inl ⟨rfl, _, SqL.of htl⟩, _, rfl, tl, _, _, rfl, rfl, htl, small (by omega), ?_⟩
      have n1 : addr kk ≠ tl := ne_of h1 htl (by intro z; cases z)
      have n2 : d ≠ tl := ne_of (s3 _ _ hd) htl (by intro z; cases z)
      refine ⟨_, rfl, .inl ⟨rfl, _, SqL.of upd_same⟩, _, rfl, _, rfl, d, .ref (addr kk), rfl, ?_, addr kk, C.a, dx, _, _, rfl, (by rw [upd_ne n1]; exact h1), T.clA, T.aNumber, aF_number _ _ _, tl, _, _, rfl, rfl, upd_same, small (by rw [List.length_append]; simp only [List.length_cons, List.length_nil]; omega), ?_⟩
      · have := DGet.k (k := (Sum.inl (n : Int) : Key)) (show (upd H' tl (.lst (iv (rowM rl (o.take i)) ++ [V.int (n : Int)]))) d = some (.dK (rK addr rl)) by rw [upd_ne n2]; exact s3 _ _ hd)
        rw [rK_look, hkk] at this
        exact this
      · refine ⟨same_upd (same_upd s3 ntl) ntl, by rw [upd_ne (fun q => nlt q.symm), upd_ne (fun q => nlt q.symm)]; exact hls, _, rfl, ?_⟩
        rw [upd_same, take_succ hn, rowM_app, hkk]
        simp [iv]
    · rintro σ H' ⟨s3, hls, v, rfl, htl⟩
      rw [List.length_map, List.take_length] at htl
      exact ⟨_, rfl, k H' tl o s3 ntl ho hsrt' htl⟩
/-- what a call without numbers answers -/
def spAll (C : Adr) (c : Pn08.Call) : Sp := fun vs H Q _ => ∃ (p dx wl al : Addr) (ps : List Addr) (t : Pn08.Task), vs = [.ref p] ∧ HouAt C H p dx wl al ps t ∧ By.Good t ∧
  ∀ (H' : Hp) (d : Addr), Same H H' → H d = none → H' d = some (.lst (outV (Pn08.step ⟨t⟩ c).2)) → Q (.ref d) H'
/-! ### likely -/
abbrev nLikely : List Str := ["self", "search", "good"]
theorem scLikely : FnScope nLikely ["self"] (defScope sLikely) := ⟨rfl, rfl, rfl, by decide +kernel, rfl, by decide +kernel, by decide +kernel⟩
theorem ok_likely {f fT : Addr} {fd fdT : FuncData} (F : Fun K "likely" "House.likely" sLikely f fd) (S : Srch P w K mg base C) (S2 : Hou P w K mg base C)
    (FT : Fun K "told_rule" "told_rule" sTold fT fdT) (bT : Binds K fdT ["rule"] []) (gT : mg "told_rule" = some (.ref fT)) (kT : PySem.W.keepIn K (.ref fT) = true) (T : Txt K mg C) : FnOk P w K mg base CX0 5 f fd ["self"] (spAll C Pn08.Call.likely) := by
  have GT : FnOk P w K mg base CX0 1 fT fdT ["rule"] (spTold C) := ok_told FT T
  obtain ⟨fC, fdC, mC, bC, GC⟩ := S2.cs
  obtain ⟨fB, fdB, mB, bB, GB⟩ := S.best
  obtain ⟨fF, fdF, mF, bF, GF⟩ := S.first
  obtain ⟨fA, fdA, mA, bA, GA⟩ := S.acts
  refine F.ok scLikely (fun vs H Q E h => ?_) (fun cdv A outer s H vs Q E hr h => ?_)
  · obtain ⟨p, dx, wl, al, ps, t, rfl, _⟩ := h
    rfl
  · obtain ⟨p, dx, wl, al, ps, t, rfl, hH, G, k⟩ := h
    have hr1 : Room 1 _ := hr.mono (by decide)
    have hr2 : Room 2 _ := hr.mono (by decide)
    have hr3 : Room 3 _ := hr.mono (by decide)
    refine ⟨_, pss_cons (ps_set (i := 1) scLikely.nd rfl (Or.inl rfl) (pe_meth (pv 0) T.clH mC GC hr3 bC .nil pass0 (pa_cons (pe_fld (pv 0) rfl) pa_nil)))
      (pss_cons (ps_set (i := 2) scLikely.nd rfl (Or.inl rfl) (pe_meth (pv 1) T.clS mA GA hr2 bA .nil pass0 (pa_cons (pe_meth0 (pv 1) T.clS mB GB hr bB .nil pass0) pa_nil)))
      (pss_one (ps_ret (pe_call GT hr1 rfl gT kT bT .nil pass0 (pa_cons (pe_meth0 (pe_meth (pv 0) T.clH mC GC hr3 bC .nil pass0 (pa_cons (pv 2) pa_nil)) T.clS mF GF hr3 bF .nil pass0) pa_nil))))), ?_⟩
    have w' := G.sz.wf
    have hB := hH.sub
    -- search
    refine ⟨_, rfl, p, dx, _, rfl, hH.ins, hF_cs _ _ _, _, rfl, p, C.h, dx, _, _, rfl, hH.ins, T.clH, T.hActs, hF_acts _ _ _, p, dx, wl, al, al, t, List.range t.acts.length, addrOf ps, rfl, hH.ins, hH.wanted, hB.refs, sub_sea hB, fun H1 x s1 hS => ?_⟩
    obtain ⟨dxx, hx1⟩ := hS.ins
    -- good
    refine ⟨_, rfl, x, dxx, _, rfl, hx1, sF_bestActs _ _ _ _ _, _, rfl, x, dxx, _, rfl, hx1, sF_best _ _ _ _ _, x, wl, al, t, List.range t.acts.length, addrOf ps, 1, 0, By.probC t w', rfl, hS, range_sz G, by decide, by decide, fun H2 q tops bottom fr s2 hV fI ok no => ?_⟩
    have bc := By.probC_end w' fI (fun s k hk i hi => no s k hk i (List.mem_range.mpr (By.mem_acts_.mp hi).1) hi)
    have ok : By.ValOk t.states (By.bv t) tops bottom := by rw [By.bestC_bv w' bc]; exact ok
    have zs := range_sz G
    refine ⟨x, wl, al, q, t, List.range t.acts.length, addrOf ps, 1, 0, tops, bottom, rfl, hS.same s2, hV, zs.few.len, zs.act, ⟨ok.len, ok.fitT, ok.fitB⟩, by decide, fun H3 D s3 nD hD => ?_⟩
    have lt := By.likely_told w' ok
    have hi : ∀ k ∈ By.bestIdx t 0 tops bottom (List.range t.acts.length), k < t.acts.length := fun k hk => List.mem_range.mp (By.bestIdx_sub hk)
    have srt := By.bestIdx_srt (t := t) (rate := 0) (tops := tops) (bottom := bottom) (idx := List.range t.acts.length) List.pairwise_lt_range
    have lidx : (By.bestIdx t 0 tops bottom (List.range t.acts.length)).length ≤ 100 := Nat.le_trans By.bestIdx_len zs.few.len
    generalize By.bestIdx t 0 tops bottom (List.range t.acts.length) = idx at hD lt hi srt lidx
    have s13 := (s1.trans s2).trans s3
    have zi := sea_sz G lidx hi
    -- the rule
    refine ⟨_, rfl, p, dx, _, rfl, s13 _ _ hH.ins, hF_cs _ _ _, _, rfl, p, dx, wl, al, D, t, idx, addrOf ps, rfl, s13 _ _ hH.ins, s13 _ _ hH.wanted, hD, fun k hk => (acts_addr hH.acts (hi k hk)).same s13, fun H4 x4 s4 hS4 => ?_⟩
    obtain ⟨dx4, hx4⟩ := hS4.ins
    refine ⟨x4, dx4, _, rfl, hx4, sF_first _ _ _ _ _, x4, wl, D, t, idx, addrOf ps, 1, 0, rfl, hS4, G.sz, hi, zi.few, fun H5 dr rl s5 ndr hdr fst no5 => ?_⟩
    have s15 := (s13.trans s4).trans s5
    have knd := (List.nodup_append.mp fst.nd).2.1
    have kle : rl.length ≤ 60 := by
      have := By.nodup_le _ _ knd (fst.lt w' hi)
      have e : (By.keysR rl).length = rl.length := by unfold By.keysR; simp
      have := G.sz.states
      omega
    refine ⟨dr, addrOf ps, rl, rfl, hdr, kle, fun y hy => (hH.num (hi _ (fst.each y hy).1)).same s15, fun H6 q6 o s6 nq6 ho hsrt hq6 => ?_⟩
    refine k H6 q6 (s15.trans s6) (s15.free nq6) ?_
    rw [hq6]
    show _ = some (HO.lst (iv (Pn08Neutral.out ⟨(((Pn08.likely t (Pn08.chances t)).filter fun x => x.isSome).length : Nat), Pn08.ruleRow (Pn08.likely t (Pn08.chances t))⟩)))
    rw [By.rule_out knd (fun s => (fst.told w' hi srt no5 s).trans (lt s)) ho hsrt]
    rfl
/-! ### cheap -/
abbrev nCheap : List Str := ["self", "search", "rule", "act"]
theorem scCheap : FnScope nCheap ["self"] (defScope sCheap) := ⟨rfl, rfl, rfl, by decide +kernel, rfl, by decide +kernel, by decide +kernel⟩
theorem ok_cheap {f fT : Addr} {fd fdT : FuncData} (F : Fun K "cheap" "House.cheap" sCheap f fd) (S : Srch P w K mg base C) (S2 : Hou P w K mg base C)
    (FT : Fun K "told_rule" "told_rule" sTold fT fdT) (bT : Binds K fdT ["rule"] []) (gT : mg "told_rule" = some (.ref fT)) (kT : PySem.W.keepIn K (.ref fT) = true) (T : Txt K mg C) : FnOk P w K mg base CX0 6 f fd ["self"] (spAll C Pn08.Call.cheap) := by
  have GT : FnOk P w K mg base CX0 1 fT fdT ["rule"] (spTold C) := ok_told FT T
  obtain ⟨fC, fdC, mC, bC, GC⟩ := S2.ks
  obtain ⟨fB, fdB, mB, bB, GB⟩ := S.best
  obtain ⟨fA, fdA, mA, bA, GA⟩ := S.acts
  refine F.ok scCheap (fun vs H Q E h => ?_) (fun cdv A outer s H vs Q E hr h => ?_)
  · obtain ⟨p, dx, wl, al, ps, t, rfl, _⟩ := h
    rfl
  · obtain ⟨p, dx, wl, al, ps, t, rfl, hH, G, k⟩ := h
    have hr1 : Room 1 _ := hr.mono (by decide)
    have hr2 : Room 2 _ := hr.mono (by decide)
    have hr4 : Room 4 _ := hr.mono (by decide)
    refine ⟨_, pss_cons (ps_set (i := 1) scCheap.nd rfl (Or.inl rfl) (pe_meth (pv 0) T.clH mC GC hr bC .nil pass0 (pa_cons (pe_fld (pv 0) rfl) pa_nil)))
      (pss_cons (ps_set (i := 2) scCheap.nd rfl (Or.inl rfl) pe_dnewK)
      (pss_cons (ps_for PassesOwn.never rfl (pi_list (pe_meth (pv 1) T.clS mA GA hr2 bA .nil pass0 (pa_cons (pe_meth0 (pv 1) T.clS mB GB hr4 bB .nil pass0) pa_nil))) (pg_name (i := 3) scCheap.nd rfl (Or.inl rfl))
        (pss_one (ps_expr (pe_dsetd (pv 2) (pe_fld (pv 3) rfl) (pv 3) ⟨rfl, rfl, rfl, rfl⟩))))
      (pss_one (ps_ret (pe_call GT hr1 rfl gT kT bT .nil pass0 (pa_cons (pv 2) pa_nil)))))), ?_⟩
    have w' := G.sz.wf
    -- search
    refine ⟨_, rfl, p, dx, _, rfl, hH.ins, hF_ks _ _ _, _, rfl, p, C.h, dx, _, _, rfl, hH.ins, T.clH, T.hActs, hF_acts _ _ _, p, dx, wl, al, al, ps, t, rfl, hH.sub, G, fun H1 x sl s1 hS => ?_⟩
    intro d nd
    have nd0 : H d = none := s1.free nd
    have s2 : Same H1 (upd H1 d (.dK [])) := same_new nd
    generalize hH2 : upd H1 d (.dK []) = H2 at s2
    have hd2 : H2 d = some (.dK []) := by rw [← hH2]; exact upd_same
    have hS2 := hS.same s2
    obtain ⟨dxx, hx2⟩ := hS2.ins
    -- the acts
    refine ⟨_, rfl, x, dxx, _, rfl, hx2, sF_bestActs _ _ _ _ _, _, rfl, x, dxx, _, rfl, hx2, sF_best _ _ _ _ _, x, wl, sl, t, By.sureIdx t, addrOf ps, 0, -1, By.probK t w', rfl, hS2, sure_sz G, by decide, by decide, fun H3 q tops bottom fr s3 hV fI ok no => ?_⟩
    have bk := By.probK_end w' fI no
    have ok : By.ValOk t.states (fun s => - By.kv t fr s) tops bottom := ok
    have zs := sure_sz G
    refine ⟨x, wl, sl, q, t, By.sureIdx t, addrOf ps, 0, -1, tops, bottom, rfl, hS2.same s3, hV, zs.few.len, zs.act, ⟨ok.len, ok.fitT, ok.fitB⟩, by decide, fun H4 D s4 nD hD => ?_⟩
    have ct := By.cheap_told w' bk ok
    have hi : ∀ k ∈ By.bestIdx t (-1) tops bottom (By.sureIdx t), k < t.acts.length := fun k hk => ((By.mem_sureIdx w').mp (By.bestIdx_sub hk)).1
    have lidx : (By.bestIdx t (-1) tops bottom (By.sureIdx t)).length ≤ 12 := by
      refine Nat.le_trans By.bestIdx_len ?_
      unfold By.sureIdx
      refine Nat.le_trans (List.length_filter_le _ _) ?_
      have := w'.many; simp; omega
    generalize By.bestIdx t (-1) tops bottom (By.sureIdx t) = idx at hD ct hi lidx
    have s24 := s3.trans s4
    have s14 := (s1.trans s2).trans s24
    have hd4 : H4 d = some (.dK []) := s24 _ _ hd2
    have nDd : D ≠ d := ne_of hD hd4 (by intro z; cases z)
    refine ⟨D, rfl, ⟨_, SqL.of hD⟩, for_list (K := K) (a := D) (xs := refs (addrOf ps) idx)
      (fun i σ H' => (∀ b o, H4 b = some o → b ≠ d → H' b = some o) ∧ ∃ v : Option V, σ = [some (.ref p), some (.ref x), some (.ref d), v] ∧ H' d = some (.dK (rK (addrOf ps) ((idx.take i).foldl (By.firstStep t) []))))
      ⟨fun b o e _ => e, none, rfl, hd4⟩ (fun i σ H' _ q => SqL.of (q.1 _ _ hD nDd)) ?_ ?_⟩
    · rintro i y σ H' hii ⟨kp, v, rfl, hd⟩
      obtain ⟨kk, hk, rfl⟩ := ref_at hii
      have km : kk ∈ idx := List.mem_of_getElem? hk
      obtain ⟨nn, dxa, dw, h1, h2⟩ := (acts_addr hH.acts (hi kk km)).same s14
      have h1' := kp _ _ h1 (ne_of h1 hd4 (by intro z; cases z))
      have est : (idx.take (i + 1)).foldl (By.firstStep t) [] = By.firstStep t ((idx.take i).foldl (By.firstStep t) []) kk := by
        rw [take_succ hk, List.foldl_append]; rfl
      have fo := By.fst_ok t (idx.take i)
      have fl := fo.len
      unfold By.firstM at fl
      rw [List.length_take] at fl
      generalize (idx.take i).foldl (By.firstStep t) [] = cur at hd est fl
      refine ⟨_, rfl, d, rfl, .inl ⟨_, .inl hd⟩, _, rfl, addrOf ps kk, C.a, dxa, _, _, rfl, h1', T.clA, T.aState, aF_state _ _ _, _, rfl, _, Sum.inl ((t.act kk).at_ : Int), hd, rfl, by rw [rK_len]; exact small (by omega), fun v' hv => ?_, fun hn => ?_⟩
      · have c : By.inR cur (t.act kk).at_ = true := by rw [← rK_some (addrOf ps), hv]; rfl
        refine ⟨kp, _, rfl, ?_⟩
        rw [est, hd]; unfold By.firstStep; rw [if_pos c]
      · have c : ¬ By.inR cur (t.act kk).at_ = true := by rw [← rK_some (addrOf ps), hn]; decide
        refine ⟨fun b o e hb => by rw [upd_ne hb]; exact kp _ _ e hb, _, rfl, ?_⟩
        rw [est, upd_same, rK_put]; unfold By.firstStep; rw [if_neg c]
    · rintro σ H' ⟨kp, v, rfl, hd⟩
      rw [List.length_map, List.take_length] at hd
      have sA : Same H H' := fun b o e => kp _ _ (s14 _ _ e) (ne_of_none e nd0)
      have fo := By.fst_ok t idx
      have fl := fo.len
      change H' d = some (.dK (rK (addrOf ps) (By.firstM t idx))) at hd
      refine ⟨_, rfl, d, addrOf ps, By.firstM t idx, rfl, hd, by omega, fun y hy => (hH.num (hi _ (fo.each y hy).1)).same sA, fun H6 q6 o s6 nq6 ho hsrt hq6 => ?_⟩
      refine k H6 q6 (sA.trans s6) (sA.free nq6) ?_
      rw [hq6]
      show _ = some (HO.lst (iv (Pn08Neutral.out ⟨(((Pn08.cheap t (Pn08.chances t) (Pn08.costs t)).filter fun x => x.isSome).length : Nat), Pn08.ruleRow (Pn08.cheap t (Pn08.chances t) (Pn08.costs t))⟩)))
      rw [By.rule_out fo.nd ct ho hsrt]
      rfl
end
end ByH

set_option maxRecDepth 100000
set_option maxHeartbeats 2000000
/-! ByJu: House.acts_of, House.judge. -/
namespace ByH
open PySem PySem.Spec PyProof.Rows L2 ByR
open By (ev2)
theorem lookF_succ {r : List (Nat × Nat)} {i : Nat} {x : Nat × Nat} (h : r[i]? = some x) (s : Nat) : By.lookF (r.take (i + 1)) s = (By.lookF (r.take i) s).or (if x.1 = s then some x.2 else none) := by
  unfold By.lookF
  rw [take_succ h, List.find?_append]
  cases (r.take i).find? fun x => x.1 == s with
  | some y => simp
  | none =>
    by_cases e : x.1 = s <;> simp [e]
theorem paired_map {α β γ : Type} {R : β → γ → Prop} {f : α → β} {g : α → γ} : ∀ {l : List α}, (∀ x ∈ l, R (f x) (g x)) → Paired R (l.map f) (l.map g)
  | [], _ => .nil
  | a :: l, h => .cons (h a (by simp)) (paired_map (l := l) fun x hx => h x (by simp [hx]))
abbrev nActsOf : List Str := ["self", "rule", "first", "state", "number", "act"]
theorem scActsOf : FnScope nActsOf ["self", "rule"] (defScope sActsOf) := ⟨rfl, rfl, rfl, by decide +kernel, rfl, by decide +kernel, by decide +kernel⟩
def spActsOf (C : Adr) : Sp := fun vs H Q _ => ∃ (p dx wl al l : Addr) (ps : List Addr) (t : Pn08.Task) (ls : List Nat) (r : List (Nat × Nat)), vs = [.ref p, .ref l] ∧ HouAt C H p dx wl al ps t ∧ By.Good t ∧ H l = some (.lst (nv ls)) ∧ ls.length ≤ 1000 ∧ Pn08.pairs ls = some r ∧
  ∀ (H' : Hp) (d : Addr), Same H H' → H d = none → H' d = some (.lst (refs (addrOf ps) (By.ruleIdx t r))) → Q (.ref d) H'
section
variable {P : Program} {w : World} {K : PySem.W.Frag} {mg : Str → Option Value} {base : Heap} {C : Adr}
theorem ok_actsOf {f : Addr} {fd : FuncData} (F : Fun K "acts_of" "House.acts_of" sActsOf f fd) (T : Txt K mg C) : FnOk P w K mg base CX0 1 f fd ["self", "rule"] (spActsOf C) := by
  refine F.ok scActsOf (fun vs H Q E h => ?_) (fun cdv A outer s H vs Q E hr h => ?_)
  · obtain ⟨p, dx, wl, al, l, ps, t, ls, r, rfl, _⟩ := h
    rfl
  · obtain ⟨p, dx, wl, al, l, ps, t, ls, r, rfl, hH, G, hl, hz, hp, k⟩ := h
    have hu := hu_of hr
    refine ⟨_, pss_cons (ps_set (i := 2) scActsOf.nd rfl (Or.inr rfl) pe_dnewK)
      (pss_cons (ps_for PassesOwn.never rfl (pi_zip (by rfl) T.zip (pa_cons (pe_step 0 (pv 1)) (pa_cons (pe_step 1 (pv 1)) pa_nil))) (pg_tup rfl (pgs_cons (pg_name (i := 3) scActsOf.nd rfl (Or.inl rfl)) (pgs_cons (pg_name (i := 4) scActsOf.nd rfl (Or.inl rfl)) pgs_nil)))
        (pss_one (ps_expr (pe_dsetd (pv 2) (pv 3) (pv 4) ⟨rfl, rfl, rfl, rfl⟩))))
      (pss_one (ps_ret (pe_lc (own := [("act", 5)]) (g := gName 5) (tt := tTest (tOp rEq (tDGet1 (tVar 2) (tFld K (tVar 5) "state")) (tFld K (tVar 5) "number"))) (te := tVar 5) rfl scActsOf.nd (pi_list (pe_fld (pv 0) rfl))
        (blkOk_by (own := [("act", 5)]) (N := nActsOf) (sc := defScope sActsOf) (by decide +kernel)) (fun _ _ _ _ _ => pg_name (i := 5) scActsOf.nd rfl (Or.inl rfl))
        (fun _ _ _ _ _ => pts_one (pt_cmpR op_eq (pe_dget1 hu (pv 2) (pe_fld (pv 5) rfl) ⟨rfl, rfl, rfl, rfl⟩) (pe_fld (pv 5) rfl) (nomark _))) (fun _ _ _ _ _ => pv 5))))), ?_⟩
    obtain ⟨e1, e2, e3⟩ := By.pairs_some hp
    have w' := G.sz.wf
    have many := w'.many
    have lps : ps.length = t.acts.length := paired_len hH.acts
    intro d nd
    have s1 : Same H (upd H d (.dK [])) := same_new nd
    have hd1 : (upd H d (.dK [])) d = some (.dK []) := upd_same
    generalize upd H d (.dK []) = H1 at s1 hd1
    have hl1 := s1 _ _ hl
    have k1 : ev2 ((nv ls).drop 0) = nv (r.map (·.1)) := by rw [List.drop_zero, ← ev2_map, e1]
    have k2 : ev2 ((nv ls).drop 1) = nv (r.map (·.2)) := by rw [← List.map_drop, ← ev2_map, e2]
    refine ⟨_, rfl, l, _, rfl, SqL.of hl1, fun q1 nq1 => ?_⟩
    rw [k1]
    have s2 : Same H1 (upd H1 q1 (.lst (nv (r.map (·.1))))) := same_new nq1
    have hq1 : (upd H1 q1 (.lst (nv (r.map (·.1))))) q1 = some (.lst (nv (r.map (·.1)))) := upd_same
    generalize upd H1 q1 (.lst (nv (r.map (·.1)))) = H2 at s2 hq1
    refine ⟨_, rfl, l, _, rfl, SqL.of (s2 _ _ hl1), fun q2 nq2 => ?_⟩
    rw [k2]
    have s3 : Same H2 (upd H2 q2 (.lst (nv (r.map (·.2))))) := same_new nq2
    have hq2 : (upd H2 q2 (.lst (nv (r.map (·.2))))) q2 = some (.lst (nv (r.map (·.2)))) := upd_same
    generalize upd H2 q2 (.lst (nv (r.map (·.2)))) = H3 at s3 hq2
    have hq1 := s3 _ _ hq1
    have hd3 := s3 _ _ (s2 _ _ hd1)
    have n1 : q1 ≠ d := ne_of hq1 hd3 (by intro z; cases z)
    have n2 : q2 ≠ d := ne_of hq2 hd3 (by intro z; cases z)
    have s13 := (s1.trans s2).trans s3
    have lr : r.length ≤ 1000 := by omega
    refine ⟨q1, q2, _, _, rfl, SqL.of hq1, SqL.of hq2, RZ.for_zipL (K := K) (a := q1) (b := q2) (xs := nv (r.map (·.1))) (ys := nv (r.map (·.2))) (by simp)
      (fun i σ H' => (∀ b o, H3 b = some o → b ≠ d → H' b = some o) ∧ ∃ (v3 v4 : Option V) (kvs : List (Key × V)), σ = [some (.ref p), some (.ref l), some (.ref d), v3, v4, none] ∧ H' d = some (.dK kvs) ∧ kvs.length ≤ i ∧ ∀ s : Nat, valV kvs (Sum.inl (s : Int) : Key) = (By.lookF (r.take i) s).map fun (n : Nat) => V.int (n : Int))
      ⟨fun b o e _ => e, none, none, [], rfl, hd3, Nat.le_refl _, fun s => by rw [List.take_zero]; rfl⟩ (fun i σ H' q => ⟨SqL.of (q.1 _ _ hq1 n1), SqL.of (q.1 _ _ hq2 n2)⟩) ?_ ?_⟩
    · rintro i x y T' σ H' hx hy ⟨kp, v3, v4, kvs, rfl, hd, hkl, hv⟩ nT
      obtain ⟨n, hn, rfl⟩ := nv_at hx
      obtain ⟨m, hm, rfl⟩ := nv_at hy
      rw [List.getElem?_map, Option.map_eq_some_iff] at hn hm
      obtain ⟨z, hz1, rfl⟩ := hn
      obtain ⟨z', hz2, rfl⟩ := hm
      rw [hz1] at hz2
      cases hz2
      have hil : i < r.length := (List.getElem?_eq_some_iff.mp hz1).1
      have nTd : d ≠ T' := ne_of_none hd nT
      have hdT : (upd H' T' (.tup [V.int (z.1 : Int), V.int (z.2 : Int)])) d = some (.dK kvs) := by rw [upd_ne nTd]; exact hd
      have kpT : ∀ b o, H3 b = some o → b ≠ d → (upd H' T' (.tup [V.int (z.1 : Int), V.int (z.2 : Int)])) b = some o := fun b o e hb => by
        have := kp _ _ e hb
        rw [upd_ne (ne_of_none this nT)]; exact this
      refine ⟨T', _, rfl, SqT.of upd_same, rfl, _, _, rfl, _, _, rfl, rfl, ?_⟩
      have hvs := hv z.1
      refine ⟨_, rfl, d, rfl, .inl ⟨_, .inl hdT⟩, _, rfl, _, rfl, kvs, Sum.inl (z.1 : Int), hdT, rfl, small (by omega), fun v' hv' => ?_, fun hn' => ?_⟩
      · refine ⟨kpT, _, _, kvs, rfl, hdT, by omega, fun s => ?_⟩
        rw [hv s, lookF_succ hz1]
        by_cases e : z.1 = s
        · subst e
          rw [hv'] at hvs
          cases q : By.lookF (r.take i) z.1 with
          | none => rw [q] at hvs; cases hvs
          | some j => rfl
        · rw [if_neg e]; simp
      · refine ⟨fun b o e hb => by rw [upd_ne hb]; exact kpT _ _ e hb, _, _, putK kvs (Sum.inl (z.1 : Int)) (V.int (z.2 : Int)), rfl, upd_same, ?_, fun s => ?_⟩
        · unfold putK
          split
          · rw [List.length_map]; omega
          · rw [List.length_append]; simp only [List.length_cons, List.length_nil]; omega
        · rw [valV_put, lookF_succ hz1, hv s]
          by_cases e : z.1 = s
          · subst e
            rw [hn'] at hvs
            rw [if_pos rfl, if_pos rfl]
            cases q : By.lookF (r.take i) z.1 with
            | none => rfl
            | some j => rw [q] at hvs; cases hvs
          · have e' : ¬ ((Sum.inl (s : Int) : Key) = Sum.inl (z.1 : Int)) := fun q => e (key_inj.mp q).symm
            rw [if_neg e', if_neg e]; simp
    · rintro σ H4 ⟨kp, v3, v4, kvs, rfl, hd, hkl, hv⟩
      have er : r.take (nv (r.map (·.1))).length = r := by rw [List.length_map, List.length_map, List.take_length]
      rw [er] at hv
      have sA : Same H H4 := fun b o e => kp _ _ (s13 _ _ e) (ne_of_none e nd)
      refine ⟨_, rfl, p, C.h, dx, _, _, rfl, sA _ _ hH.ins, T.clH, T.hActs, hF_acts _ _ _, al, rfl, ⟨_, SqL.of (sA _ _ hH.list)⟩, fun D nD => lc_list (K := K) (a := al) (xs := ps.map V.ref)
        (fun i H' => Same H4 H' ∧ H' D = some (.lst (refs (addrOf ps) ((List.range i).filter fun k => decide (By.lookF r (t.act k).at_ = some k))))) ⟨same_new nD, upd_same⟩ (fun i H' _ q => SqL.of (q.1 _ _ (sA _ _ hH.list))) ?_ ?_⟩
      · rintro i y H' hi ⟨s5, hD⟩
        have hlt : i < ps.length := by have := (List.getElem?_eq_some_iff.mp hi).1; simpa using this
        have hia : i < t.acts.length := by omega
        have ey : y = V.ref (addrOf ps i) := by
          rw [List.getElem?_map, List.getElem?_eq_getElem hlt] at hi
          unfold addrOf
          rw [List.getD_eq_getElem?_getD, List.getElem?_eq_getElem hlt]
          exact (Option.some.inj hi).symm
        subst ey
        have s45 := sA.trans s5
        obtain ⟨nn, dxa, dw, h1, h2⟩ := (acts_addr hH.acts hia).same s45
        obtain ⟨dxb, ab, db, h3⟩ := (hH.num hia).same s45
        have hd5 := s5 _ _ hd
        refine ⟨rfl, _, rfl, d, rfl, .inl ⟨_, .inl hd5⟩, _, rfl, addrOf ps i, C.a, dxa, _, _, rfl, h1, T.clA, T.aState, aF_state _ _ _, _, DGet.k (k := Sum.inl ((t.act i).at_ : Int)) hd5, _, rfl, addrOf ps i, C.a, dxb, _, _, rfl, h3, T.clA, T.aNumber, aF_number _ _ _, ?_⟩
        rw [hv]
        have ec : decide (((By.lookF r (t.act i).at_).map fun (n : Nat) => V.int (n : Int)).getD .non = V.int (i : Int)) = decide (By.lookF r (t.act i).at_ = some i) := by
          refine decide_eq_decide.mpr ?_
          cases By.lookF r (t.act i).at_ with
          | none => exact Iff.intro (fun h => nomatch h) (fun h => nomatch h)
          | some j =>
            constructor
            · intro h
              have := V.int.inj h
              rw [show j = i by omega]
            · intro h; rw [Option.some.inj h]; rfl
        have sc : scal (((By.lookF r (t.act i).at_).map fun (n : Nat) => V.int (n : Int)).getD .non) (V.int (i : Int)) = true := by
          cases By.lookF r (t.act i).at_ <;> rfl
        refine ⟨sc, _, rfl, ?_⟩
        refine ite2 (fun c => ?_) (fun c => ?_)
        · have c' : decide (By.lookF r (t.act i).at_ = some i) = true := by rw [← ec]; exact c
          refine ⟨_, rfl, _, hD, ?_, same_upd s5 nD, ?_⟩
          · rw [List.length_map]
            refine small (Nat.le_trans (List.length_filter_le _ _) ?_)
            simp; omega
          · rw [upd_same, filt_succ, if_pos c', refs_app]
        · have c' : ¬ decide (By.lookF r (t.act i).at_ = some i) = true := by rw [← ec]; exact c
          refine ⟨s5, ?_⟩
          rw [hD, filt_succ, if_neg c', List.append_nil]
      · rintro H5 ⟨s5, hD⟩
        rw [List.length_map, lps] at hD
        exact k H5 D (sA.trans s5) (sA.free nD) hD
/-! ### judge -/
abbrev nJudge : List Str := ["self", "state", "rule", "acts", "likelihood"]
theorem scJudge : FnScope nJudge ["self", "state", "rule"] (defScope sJudge) := ⟨rfl, rfl, rfl, by decide +kernel, rfl, by decide +kernel, by decide +kernel⟩
def spJudge (C : Adr) : Sp := fun vs H Q _ => ∃ (p dx wl al l : Addr) (ps : List Addr) (t : Pn08.Task) (st : Nat) (ls : List Nat), vs = [.ref p, .int (st : Int), .ref l] ∧ HouAt C H p dx wl al ps t ∧ By.Good t ∧ H l = some (.lst (nv ls)) ∧ ls.length ≤ 1000 ∧
  ∀ (H' : Hp) (d : Addr), Same H H' → H d = none → H' d = some (.lst (outV (Pn08.step ⟨t⟩ (.judge st ls)).2)) → Q (.ref d) H'
theorem ok_judge {f fA : Addr} {fd fdA : FuncData} (F : Fun K "judge" "House.judge" sJudge f fd) (B : Bst P w K mg base C) (FA : Fun K "acts_of" "House.acts_of" sActsOf fA fdA) (bA : Binds K fdA ["self", "rule"] []) (mA : Meth K C.h "acts_of" fA) (T : Txt K mg C) :
    FnOk P w K mg base CX0 7 f fd ["self", "state", "rule"] (spJudge C) := by
  have GA : FnOk P w K mg base CX0 1 fA fdA ["self", "rule"] (spActsOf C) := ok_actsOf FA T
  obtain ⟨fB, fdB, mB, bB, GB⟩ := B.bc
  obtain ⟨fK, fdK, mK, bK, GK⟩ := B.bk
  obtain ⟨tn, gn⟩ := T.cNoState
  obtain ⟨tu, gu⟩ := T.cWrong
  refine F.ok scJudge (fun vs H Q E h => ?_) (fun cdv A outer s H vs Q E hr h => ?_)
  · obtain ⟨p, dx, wl, al, l, ps, t, st, ls, rfl, _⟩ := h
    rfl
  · obtain ⟨p, dx, wl, al, l, ps, t, st, ls, rfl, hH, G, hl, hz, k⟩ := h
    have hr1 : Room 1 _ := hr.mono (by decide)
    have hr5 : Room 5 _ := hr.mono (by decide)
    refine ⟨_, pss_cons (ps_if (pt_cmpR op_ge (pv 1) (pe_fld (pv 0) rfl) (nomark _)) (pss_one (ps_ret (pe_lst (pa_cons (pe_glob (v := .int (-2)) rfl gn ⟨_, rfl⟩) pa_nil)))) pss_nil)
      (pss_cons (ps_if (pt_cmpR op_ne (pe_op op_mod (pe_callB call_len_seq (by rfl) T.len PySem.boot_len (pa_cons (pv 2) pa_nil)) pe_int) pe_int (nomark _)) (pss_one (ps_ret (pe_lst (pa_cons (pe_glob (v := .int (-1)) rfl gu ⟨_, rfl⟩) pa_nil)))) pss_nil)
      (pss_cons (ps_set (i := 3) scJudge.nd rfl (Or.inl rfl) (pe_meth (pv 0) T.clH mA GA hr1 bA .nil pass0 (pa_cons (pv 2) pa_nil)))
      (pss_cons (ps_set (i := 4) scJudge.nd rfl (Or.inl rfl) (pe_meth (pv 0) T.clH mB GB hr5 bB .nil pass0 (pa_cons (pv 3) (pa_cons (pv 1) pa_nil))))
      (pss_cons (ps_if (pt_cmpR (op_neD hr.units) (pv 4) (pe_lst (pa_cons pe_int (pa_cons pe_int pa_nil))) (nomark _)) (pss_one (ps_ret (pe_op op_cat (pe_lst (pa_cons pe_int pa_nil)) (pv 4)))) pss_nil)
      (pss_one (ps_ret (pe_op op_cat (pe_op op_cat (pe_lst (pa_cons pe_int pa_nil)) (pv 4)) (pe_meth (pv 0) T.clH mK GK hr bK .nil pass0 (pa_cons (pv 3) (pa_cons (pv 1) pa_nil)))))))))), ?_⟩
    have lnv : (nv ls).length = ls.length := by simp
    refine ⟨_, rfl, _, rfl, p, C.h, dx, _, _, rfl, hH.ins, T.clH, T.hMany, hF_many _ _ _, _, _, rfl, rfl, _, rfl, ?_⟩
    refine ite2 (fun c => ?_) (fun c => ?_)
    · have c' : t.states ≤ st := by have := of_decide_eq_true c; omega
      refine ⟨by show 1 ≤ sizeLine; decide, fun d nd => k _ d (same_new nd) nd ?_⟩
      rw [upd_same]
      unfold Pn08.step
      simp only [c', if_true]; rfl
    · have c' : ¬ t.states ≤ st := fun x => c (decide_eq_true (by omega))
      refine ⟨_, rfl, l, _, rfl, .inl (SqL.of hl), _, _, rfl, rfl, (by show (0 : Int) < 2; decide), rfl, _, rfl, ?_⟩
      have em : (((nv ls).length : Nat) : Int) % 2 = ((ls.length % 2 : Nat) : Int) := by rw [lnv]; omega
      refine ite2 (fun c2 => ?_) (fun c2 => ?_)
      · have c2' : ls.length % 2 ≠ 0 := fun x => by
          have : decide (V.int ((((nv ls).length : Nat) : Int) % 2) = V.int 0) = true := decide_eq_true (by rw [em, x]; rfl)
          rw [this] at c2; cases c2
        have en : Pn08.pairs ls = none := by
          cases e : Pn08.pairs ls with
          | none => rfl
          | some r => have := (By.pairs_some e).2.2; omega
        refine ⟨by show 1 ≤ sizeLine; decide, fun d nd => k _ d (same_new nd) nd ?_⟩
        rw [upd_same]
        unfold Pn08.step
        simp only [c', if_false, en]; rfl
      · have c2' : ¬ ls.length % 2 ≠ 0 := fun x => c2 (by
          have : decide (V.int ((((nv ls).length : Nat) : Int) % 2) = V.int 0) = false := decide_eq_false (fun y => x (by
            have := V.int.inj y
            rw [em] at this; omega))
          show (!decide (V.int ((((nv ls).length : Nat) : Int) % 2) = V.int 0)) = true
          rw [this]; rfl)
        obtain ⟨r, hp⟩ : ∃ r, Pn08.pairs ls = some r := by
          cases e : Pn08.pairs ls with
          | some r => exact ⟨r, rfl⟩
          | none => exact absurd (By.pairs_none e) c2'
        -- acts
        refine ⟨_, rfl, p, dx, _, rfl, hH.ins, hF_actsOf _ _ _, _, rfl, p, dx, wl, al, l, ps, t, ls, r, rfl, hH, G, hl, hz, hp, fun H1 D s1 nD hD => ?_⟩
        have G' := By.good_rule G r
        have w' := G'.sz.wf
        have hS : SubAt C H1 p dx wl al D ((By.ruleIdx t r).map (addrOf ps)) (By.sub t (By.ruleIdx t r)) :=
          ⟨s1 _ _ hH.ins, s1 _ _ hH.wanted, by rw [hD, List.map_map]; rfl, paired_map fun k hk => (acts_addr hH.acts (By.mem_ruleIdx.mp hk).1).same s1⟩
        -- likelihood
        refine ⟨_, rfl, p, dx, _, rfl, s1 _ _ hH.ins, hF_bc _ _ _, _, rfl, _, rfl, p, dx, wl, al, D, _, By.sub t (By.ruleIdx t r), st, rfl, hS, G', (by show st < t.states; omega), fun H2 q s2 nq hq => ?_⟩
        have s12 := s1.trans s2
        refine ⟨_, rfl, by show 2 ≤ sizeLine; decide, fun e ne => ?_⟩
        have s3 : Same H2 (upd H2 e (.lst [V.int 1, V.int 1])) := same_new ne
        have s13 := s12.trans s3
        refine ⟨_, _, dp_row (s3 _ _ hq), dp_one upd_same, rfl, rfl, _, rfl, ?_⟩
        have er := eqv_row (By.val_ok (By.chances_ok w') st)
        have ebv : By.R (Pn08.val (Pn08.chances (By.sub t (By.ruleIdx t r))) st) = By.bv (By.sub t (By.ruleIdx t r)) st := rfl
        rw [ebv] at er
        have jc := By.judge_chances G r st
        have jk := By.judge_costs G r
        obtain ⟨kf, bkf, ekf⟩ := By.costs_best w'
        have ct := By.costs_told w' bkf st
        have estep : (Pn08.step ⟨t⟩ (.judge st ls)).2 = ⟨if ((Pn08.costs (By.sub t (By.ruleIdx t r))).getD st none).isSome = true then 1 else 0, Pn08.row (Pn08.val (Pn08.chances (By.sub t (By.ruleIdx t r))) st) ++ match (Pn08.costs (By.sub t (By.ruleIdx t r))).getD st none with
            | some q => Pn08.row q
            | none => []⟩ := by
          rw [jc, jk]
          unfold Pn08.step
          simp only [c', if_false, hp]
          rfl
        generalize upd H2 e (.lst [V.int 1, V.int 1]) = H3 at s3 s13
        have hq3 := s3 _ _ hq
        refine ite2 (fun c3 => ?_) (fun c3 => ?_)
        · have c3' := er.mp c3
          have en : (Pn08.costs (By.sub t (By.ruleIdx t r))).getD st none = none := by
            cases e : (Pn08.costs (By.sub t (By.ruleIdx t r))).getD st none with
            | none => rfl
            | some q => rw [e] at ct; exact absurd (ct.1.mp rfl) c3'
          refine ⟨by show 1 ≤ sizeLine; decide, fun l0 nl0 => ?_⟩
          have s4 : Same H3 (upd H3 l0 (.lst [V.int 0])) := same_new nl0
          refine ⟨_, rfl, l0, q, _, _, rfl, rfl, upd_same, s4 _ _ hq3, by show 1 + _ ≤ sizeLine; simp [nv, Pn08.row]; decide, fun z nz => ?_⟩
          refine k _ z ((s13.trans s4).trans (same_new nz)) ((s13.trans s4).free nz) ?_
          rw [upd_same, estep, en, out_row, List.append_nil]; rfl
        · have c3' : By.bv (By.sub t (By.ruleIdx t r)) st = 1 := Classical.byContradiction fun x => c3 (er.mpr x)
          obtain ⟨qq, eq⟩ := Option.isSome_iff_exists.mp (ct.1.mpr c3')
          refine ⟨by show 1 ≤ sizeLine; decide, fun l0 nl0 => ?_⟩
          have s4 : Same H3 (upd H3 l0 (.lst [V.int 1])) := same_new nl0
          refine ⟨_, rfl, l0, q, _, _, rfl, rfl, upd_same, s4 _ _ hq3, by show 1 + _ ≤ sizeLine; simp [nv, Pn08.row]; decide, fun z nz => ?_⟩
          have s5 : Same (upd H3 l0 (.lst [V.int 1])) (upd (upd H3 l0 (.lst [V.int 1])) z (.lst ([V.int 1] ++ nv (Pn08.row (Pn08.val (Pn08.chances (By.sub t (By.ruleIdx t r))) st))))) := same_new nz
          have s15 := (s13.trans s4).trans s5
          refine ⟨_, rfl, p, dx, _, rfl, s15 _ _ hH.ins, hF_bk _ _ _, _, rfl, _, rfl, p, dx, wl, al, D, _, By.sub t (By.ruleIdx t r), st, qq, rfl, hS.same (((s2.trans s3).trans s4).trans s5), G', (by show st < t.states; omega), eq, fun H6 d6 s6 nd6 hd6 => ?_⟩
          refine ⟨z, d6, _, _, rfl, rfl, s6 _ _ upd_same, hd6, by show _ + _ ≤ sizeLine; simp [nv, Pn08.row]; decide, fun y ny => ?_⟩
          refine k _ y ((s15.trans s6).trans (same_new ny)) ((s15.trans s6).free ny) ?_
          rw [upd_same, estep, eq, out_row]
          simp [nv]
end
end ByH

set_option maxRecDepth 100000
set_option maxHeartbeats 2000000
/-! ByMu: House: __init__, begins, act. -/
namespace ByH
open PySem PySem.Spec PyProof.Rows L2 ByR
open By (ev2 riseB fitB)
/-- behind a call the house is the specification's, and the answer a new list -/
def After (C : Adr) (H : Hp) (p dx wl al : Addr) (own : Addr → Prop) (r : Pn08.House × Pn08.Ans) (Q : VK) : Prop :=
  ∀ (H' : Hp) (d wl' al' : Addr) (ps' : List Addr), HouAt C H' p dx wl' al' ps' r.1.task → H d = none → H' d = some (.lst (outV r.2)) → (∀ b o, H b = some o → b ≠ p → b ≠ al → H' b = some o) →
    (al' = al ∨ H al' = none) → (wl' = wl ∨ own wl' ∨ H wl' = none) → wl' ≠ al' → d ≠ al' → d ≠ wl' → Q (.ref d) H'
theorem step_begins (t : Pn08.Task) (n : Nat) (g : List Nat) : Pn08.step ⟨t⟩ (.begins n g) = if n = 0 ∨ Pn08.STATES < n ∨ (g.any fun s => decide (n ≤ s)) = true ∨ Pn08.rising g = false then (⟨t⟩, Pn08.ok (-1)) else (⟨⟨n, [], g⟩⟩, Pn08.ok 0) := rfl
section
variable {P : Program} {w : World} {K : PySem.W.Frag} {mg : Str → Option Value} {base : Heap} {C : Adr}
theorem scHouInit : FnScope ["self"] ["self"] (defScope sHouInit) := ⟨rfl, rfl, rfl, by decide +kernel, rfl, by decide +kernel, by decide +kernel⟩
def spHouInit (C : Adr) : Sp := fun vs H Q _ => ∃ (p dx : Addr), vs = [.ref p] ∧ H p = some (.ins C.h dx []) ∧
  ∀ (H' : Hp) (wl al : Addr), HouAt C H' p dx wl al [] Pn08.init.task → wl ≠ al → H al = none → H wl = none → (∀ b o, H b = some o → b ≠ p → H' b = some o) → Q .non H'
theorem ok_houInit {f : Addr} {fd : FuncData} (F : Fun K "__init__" "House.__init__" sHouInit f fd) (T : Txt K mg C) : FnOk P w K mg base CX0 1 f fd ["self"] (spHouInit C) := by
  refine F.ok scHouInit (fun vs H Q E h => ?_) (fun cdv A outer s H vs Q E hr h => ?_)
  · obtain ⟨p, dx, rfl, _⟩ := h
    rfl
  · obtain ⟨p, dx, rfl, hp, k⟩ := h
    refine ⟨_, pss_cons (ps_fld (pv 0) pe_int rfl) (pss_cons (ps_fld (pv 0) (pe_lst pa_nil) rfl) (pss_one (ps_fld (pv 0) (pe_lst pa_nil) rfl))), ?_⟩
    refine ⟨_, rfl, p, C.h, dx, [], rfl, hp, T.clH, T.hMany, (by show 0 < 1000; decide), ?_⟩
    refine ⟨Nat.zero_le _, fun wl nwl => ?_⟩
    have npw : p ≠ wl := fun e => by rw [← e, upd_same] at nwl; cases nwl
    refine ⟨_, rfl, p, C.h, dx, _, rfl, by rw [upd_ne npw]; exact upd_same, T.clH, T.hWanted, (by show 1 < 1000; decide), ?_⟩
    refine ⟨Nat.zero_le _, fun al nal => ?_⟩
    have npa : p ≠ al := fun e => by rw [← e, upd_same] at nal; cases nal
    have nwa : wl ≠ al := fun e => by rw [← e, upd_ne (fun q => npw q.symm), upd_same] at nal; cases nal
    refine ⟨_, rfl, p, C.h, dx, _, rfl, by rw [upd_ne npa]; exact upd_same, T.clH, T.hActs, (by show 2 < 1000; decide), ?_⟩
    have nwl0 : H wl = none := by rw [upd_ne (fun q => npw q.symm)] at nwl; exact nwl
    have nal0 : H al = none := by rw [upd_ne (fun q => npa q.symm), upd_ne (fun q => nwa q.symm), upd_ne (fun q => npa q.symm)] at nal; exact nal
    refine k _ wl al ⟨?_, ?_, ?_, .nil, fun i q hq => by simp at hq⟩ nwa nal0 nwl0 fun b o e hb => ?_
    · rw [upd_same]; rfl
    · rw [upd_ne (fun q => npw q.symm), upd_ne nwa, upd_ne (fun q => npw q.symm), upd_same]; rfl
    · rw [upd_ne (fun q => npa q.symm), upd_same]; rfl
    · rw [upd_ne hb, upd_ne (ne_of_none e nal0), upd_ne hb, upd_ne (ne_of_none e nwl0), upd_ne hb]; exact e
/-! ### begins -/
theorem scBegins : FnScope ["self", "many", "wanted"] ["self", "many", "wanted"] (defScope sBegins) := ⟨rfl, rfl, rfl, by decide +kernel, rfl, by decide +kernel, by decide +kernel⟩
def spBegins (C : Adr) : Sp := fun vs H Q _ => ∃ (p dx wl al l : Addr) (ps : List Addr) (t : Pn08.Task) (n : Nat) (g : List Nat), vs = [.ref p, .int (n : Int), .ref l] ∧ HouAt C H p dx wl al ps t ∧ wl ≠ al ∧ H l = some (.lst (nv g)) ∧
  After C H p dx wl al (fun x => x = l) (Pn08.step ⟨t⟩ (.begins n g)) Q
theorem ok_begins {f fR : Addr} {fd fdR : FuncData} (F : Fun K "begins" "House.begins" sBegins f fd) (FR : Fun K "rise_below" "rise_below" sRise fR fdR) (bR : Binds K fdR ["states", "many"] []) (gR : mg "rise_below" = some (.ref fR)) (kR : PySem.W.keepIn K (.ref fR) = true) (T : Txt K mg C) :
    FnOk P w K mg base CX0 2 f fd ["self", "many", "wanted"] (spBegins C) := by
  have GR : FnOk P w K mg base CX0 1 fR fdR ["states", "many"] (spRise K) := ok_rise FR
  obtain ⟨tn, gn⟩ := T.cWrong
  obtain ⟨ts, gs⟩ := T.cStates
  refine F.ok scBegins (fun vs H Q E h => ?_) (fun cdv A outer s H vs Q E hr h => ?_)
  · obtain ⟨p, dx, wl, al, l, ps, t, n, g, rfl, _⟩ := h
    rfl
  · obtain ⟨p, dx, wl, al, l, ps, t, n, g, rfl, hH, nwa, hl, k⟩ := h
    refine ⟨_, pss_cons (ps_if (PW.pt (pw_or (pt_cmpR op_lt (pv 1) pe_int (nomark _)) (pw_or (pt_cmpR op_gt (pv 1) (pe_glob (v := .int 6) rfl gs ⟨_, rfl⟩) (nomark _)) (pw_or1 (pt_not (pt_val (pe_call GR hr rfl gR kR bR .nil pass0 (pa_cons (pv 2) (pa_cons (pv 1) pa_nil)))))))))
        (pss_one (ps_ret (pe_lst (pa_cons (pe_glob (v := .int (-1)) rfl gn ⟨_, rfl⟩) pa_nil)))) pss_nil)
      (pss_cons (ps_fld (pv 0) (pv 1) rfl) (pss_cons (ps_fld (pv 0) (pv 2) rfl) (pss_cons (ps_fld (pv 0) (pe_lst pa_nil) rfl) (pss_one (ps_ret (pe_lst (pa_cons pe_int pa_nil))))))), ?_⟩
    have fits := By.begins_fits n g
    have npl : p ≠ l := ne_of hH.ins hl (by intro z; cases z)
    have bad : (n < 1 ∨ 6 < n ∨ riseB n 0 g = false) → ∀ d, H d = none → Q (.ref d) (upd H d (.lst [V.int (-1)])) := fun hb d nd => by
      have e : Pn08.step ⟨t⟩ (.begins n g) = (⟨t⟩, Pn08.ok (-1)) := by rw [step_begins, if_pos (fits.mp hb)]
      refine k _ d wl al ps ?_ nd ?_ (fun b o e hb _ => same_new nd _ _ e) (.inl rfl) (.inl rfl) nwa ?_ ?_
      · rw [e]; exact hH.same (same_new nd)
      · rw [e, upd_same]; rfl
      · exact fun q => by rw [q, hH.list] at nd; cases nd
      · exact fun q => by rw [q, hH.wanted] at nd; cases nd
    refine ⟨_, rfl, _, _, rfl, rfl, _, rfl, ?_⟩
    refine ite2 (fun c1 => ?_) (fun c1 => ?_)
    · have c1' : n < 1 := by have := of_decide_eq_true c1; omega
      refine iteT ⟨by show 1 ≤ sizeLine; decide, fun d nd => bad (.inl c1') d nd⟩
    · have c1' : ¬ n < 1 := fun x => c1 (decide_eq_true (by omega))
      refine ⟨_, rfl, _, _, rfl, rfl, _, rfl, ?_⟩
      refine ite2 (fun c2 => ?_) (fun c2 => ?_)
      · have c2' : 6 < n := by have := of_decide_eq_true c2; omega
        refine iteT ⟨by show 1 ≤ sizeLine; decide, fun d nd => bad (.inr (.inl c2')) d nd⟩
      · have c2' : ¬ 6 < n := fun x => c2 (decide_eq_true (by omega))
        refine ⟨_, rfl, _, rfl, l, g, n, rfl, SqL.of hl, _, rfl, ?_⟩
        refine ite2 (fun c3 => ?_) (fun c3 => ?_)
        · have c3' : riseB n 0 g = false := by simpa using c3
          exact ⟨by show 1 ≤ sizeLine; decide, fun d nd => bad (.inr (.inr c3')) d nd⟩
        · have c3' : ¬ riseB n 0 g = false := by simpa using c3
          have e : Pn08.step ⟨t⟩ (.begins n g) = (⟨⟨n, [], g⟩⟩, Pn08.ok 0) := by
            rw [step_begins, if_neg (fun q => by
              rcases fits.mpr q with a | a | a
              · exact c1' a
              · exact c2' a
              · exact c3' a)]
          refine ⟨_, rfl, _, rfl, p, C.h, dx, _, rfl, hH.ins, T.clH, T.hMany, (by show 3 < 1000; decide), ?_⟩
          refine ⟨_, rfl, _, rfl, p, C.h, dx, _, rfl, upd_same, T.clH, T.hWanted, (by show 3 < 1000; decide), ?_⟩
          refine ⟨Nat.zero_le _, fun a2 na2 => ?_⟩
          have npa : p ≠ a2 := fun e => by rw [← e, upd_same] at na2; cases na2
          have na0 : H a2 = none := by rw [upd_ne (fun q => npa q.symm), upd_ne (fun q => npa q.symm)] at na2; exact na2
          refine ⟨_, rfl, p, C.h, dx, _, rfl, by rw [upd_ne npa]; exact upd_same, T.clH, T.hActs, (by show 3 < 1000; decide), ?_⟩
          refine ⟨by show 1 ≤ sizeLine; decide, fun d nd => ?_⟩
          have ndp : d ≠ p := fun e => by rw [e, upd_same] at nd; cases nd
          have nda : d ≠ a2 := fun e => by rw [e, upd_ne (fun q => npa q.symm), upd_same] at nd; cases nd
          have nd0 : H d = none := by rw [upd_ne ndp, upd_ne nda, upd_ne ndp, upd_ne ndp] at nd; exact nd
          have nla : l ≠ a2 := ne_of_none hl na0
          have nld : l ≠ d := ne_of_none hl nd0
          have npd : p ≠ d := fun q => ndp q.symm
          have nad : a2 ≠ d := fun q => nda q.symm
          refine k _ d l a2 [] ?_ nd0 ?_ (fun b o eb hb _ => ?_) (.inr na0) (.inr (.inl rfl)) nla nda (fun q => nld q.symm)
          · rw [e]
            refine ⟨?_, ?_, ?_, .nil, fun i q hq => by simp at hq⟩
            · rw [upd_ne npd, upd_same]; rfl
            · rw [upd_ne nld, upd_ne (fun q => npl q.symm), upd_ne nla, upd_ne (fun q => npl q.symm), upd_ne (fun q => npl q.symm)]; exact hl
            · rw [upd_ne nad, upd_ne (fun q => npa q.symm), upd_same]; rfl
          · rw [e, upd_same]; rfl
          · rw [upd_ne (ne_of_none eb nd0), upd_ne hb, upd_ne (ne_of_none eb na0), upd_ne hb, upd_ne hb]; exact eb
/-! ### act -/
theorem merge_nodup : ∀ (kvs acc : List (Key × V)), ((acc ++ kvs).map (·.1)).Nodup → mergeK acc kvs = acc ++ kvs
  | [], acc, _ => by simp [mergeK]
  | x :: kvs, acc, h => by
    have e : putK acc x.1 x.2 = acc ++ [x] := by
      unfold putK
      rw [if_neg]
      intro q
      obtain ⟨y, hy, hc⟩ := List.any_eq_true.mp q
      have hc' : y.1 = x.1 := of_decide_eq_true hc
      rw [List.map_append, List.nodup_append] at h
      exact h.2.2 y.1 (List.mem_map.mpr ⟨y, hy, rfl⟩) x.1 (by simp) hc'
    show mergeK (putK acc x.1 x.2) kvs = acc ++ x :: kvs
    rw [e, merge_nodup kvs (acc ++ [x]) (by simpa using h)]
    simp
theorem zip_wK (o : By.Outs) : (o.map fun x => (Sum.inl (x.1 : Int) : Key)).zip (nv (o.map (·.2))) = wK o := by
  unfold wK nv
  induction o with
  | nil => rfl
  | cons x o ih => simp only [List.map_cons, List.zip_cons_cons, ih]
theorem scAct : FnScope ["self", "state", "price", "leads", "number"] ["self", "state", "price", "leads"] (defScope sAct) := ⟨rfl, rfl, rfl, by decide +kernel, rfl, by decide +kernel, by decide +kernel⟩
def spAct (C : Adr) : Sp := fun vs H Q _ => ∃ (p dx wl al l : Addr) (ps : List Addr) (t : Pn08.Task) (st c : Nat) (ls : List Nat), vs = [.ref p, .int (st : Int), .int (c : Int), .ref l] ∧ HouAt C H p dx wl al ps t ∧ By.Good t ∧ wl ≠ al ∧ H l = some (.lst (nv ls)) ∧ l ≠ al ∧ ls.length ≤ 1000 ∧
  After C H p dx wl al (fun _ => False) (Pn08.step ⟨t⟩ (.act st c ls)) Q
theorem ok_act {f fF fR fA : Addr} {fd fdF fdR fdA : FuncData} (F : Fun K "act" "House.act" sAct f fd) (FF : Fun K "leads_fit" "leads_fit" sFit fF fdF) (bF : Binds K fdF ["leads", "many"] []) (gF : mg "leads_fit" = some (.ref fF)) (kF : PySem.W.keepIn K (.ref fF) = true)
    (FR : Fun K "rise_below" "rise_below" sRise fR fdR) (bR : Binds K fdR ["states", "many"] []) (gR : mg "rise_below" = some (.ref fR)) (kR : PySem.W.keepIn K (.ref fR) = true)
    (FA : Fun K "__init__" "Act.__init__" sActInit fA fdA) (bA : Binds K fdA ["self", "number", "state", "price", "weights"] []) (MA : Mk K C.a fA) (T : Txt K mg C) : FnOk P w K mg base CX0 3 f fd ["self", "state", "price", "leads"] (spAct C) := by
  have GF : FnOk P w K mg base CX0 2 fF fdF ["leads", "many"] (spFit K) := ok_fit FF FR bR gR kR T
  have GA : FnOk P w K mg base CX0 1 fA fdA ["self", "number", "state", "price", "weights"] (spActInit C) := ok_actInit FA T
  obtain ⟨tn, gn⟩ := T.cWrong
  obtain ⟨tf, gf⟩ := T.cFull
  obtain ⟨ta, ga⟩ := T.cActs
  obtain ⟨tc, gc⟩ := T.cCost
  refine F.ok scAct (fun vs H Q E h => ?_) (fun cdv A outer s H vs Q E hr h => ?_)
  · obtain ⟨p, dx, wl, al, l, ps, t, st, c, ls, rfl, _⟩ := h
    rfl
  · obtain ⟨p, dx, wl, al, l, ps, t, st, c, ls, rfl, hH, G, nwa, hl, nla, hz, k⟩ := h
    refine ⟨_, pss_cons (ps_if (pt_cmpR op_ge (pe_callB call_len_seq (by rfl) T.len PySem.boot_len (pa_cons (pe_fld (pv 0) rfl) pa_nil)) (pe_glob (v := .int 12) rfl ga ⟨_, rfl⟩) (nomark _)) (pss_one (ps_ret (pe_lst (pa_cons (pe_glob (v := .int (-7)) rfl gf ⟨_, rfl⟩) pa_nil)))) pss_nil)
      (pss_cons (ps_if (PW.pt (pw_or (pt_cmpR op_ge (pv 1) (pe_fld (pv 0) rfl) (nomark _)) (pw_or (pt_cmpR op_lt (pv 2) pe_int (nomark _)) (pw_or (pt_cmpR op_gt (pv 2) (pe_glob (v := .int 100) rfl gc ⟨_, rfl⟩) (nomark _)) (pw_or1 (pt_not (pt_val (pe_call GF hr rfl gF kF bF .nil pass0 (pa_cons (pv 3) (pa_cons (pe_fld (pv 0) rfl) pa_nil))))))))))
        (pss_one (ps_ret (pe_lst (pa_cons (pe_glob (v := .int (-1)) rfl gn ⟨_, rfl⟩) pa_nil)))) pss_nil)
      (pss_cons (ps_set (i := 4) scAct.nd rfl (Or.inl rfl) (pe_callB call_len_seq (by rfl) T.len PySem.boot_len (pa_cons (pe_fld (pv 0) rfl) pa_nil)))
      (pss_cons (ps_expr (pe_bm PySem.F.plainAttrs_list PySem.F.slot_list_append PySem.F.type_list_append mt_append (pe_fld (pv 0) rfl) (pa_cons (pe_make MA GA hr rfl T.gA bA .nil pass0 (pa_cons (pv 4) (pa_cons (pv 1) (pa_cons (pv 2) (pa_cons (pe_dictZip rfl (by rfl) T.dict (by rfl) T.zip (pa_cons (pe_step 0 (pv 3)) (pa_cons (pe_step 1 (pv 3)) pa_nil))) pa_nil))))) pa_nil)))
      (pss_one (ps_ret (pe_lst (pa_cons (pv 4) pa_nil))))))), ?_⟩
    have lps : ps.length = t.acts.length := paired_len hH.acts
    have many := G.sz.wf.many
    have lpm : (((ps.map V.ref).length : Nat) : Int) = (t.acts.length : Int) := by rw [List.length_map, lps]
    have same : ∀ {H1 : Hp} (v : Int), Same H H1 → Pn08.step ⟨t⟩ (.act st c ls) = (⟨t⟩, Pn08.ok v) → ∀ d, H1 d = none → Q (.ref d) (upd H1 d (.lst [V.int v])) := fun {H1} v s1 e d nd => by
      have nd0 := s1.free nd
      refine k _ d wl al ps ?_ nd0 ?_ (fun b o e hb _ => same_new nd _ _ (s1 _ _ e)) (.inl rfl) (.inl rfl) nwa ?_ ?_
      · rw [e]; exact hH.same (s1.trans (same_new nd))
      · rw [e, upd_same]; rfl
      · exact fun q => by rw [q, hH.list] at nd0; cases nd0
      · exact fun q => by rw [q, hH.wanted] at nd0; cases nd0
    refine ⟨_, rfl, p, C.h, dx, _, _, rfl, hH.ins, T.clH, T.hActs, hF_acts _ _ _, al, _, rfl, .inl (SqL.of hH.list), _, _, rfl, rfl, _, rfl, ?_⟩
    rw [lpm]
    refine ite2 (fun c1 => ?_) (fun c1 => ?_)
    · have c1' : t.acts.length = Pn08.ACTS := by
        have := of_decide_eq_true c1
        show t.acts.length = 12
        omega
      have e : Pn08.step ⟨t⟩ (.act st c ls) = (⟨t⟩, Pn08.ok (-7)) := by unfold Pn08.step; simp only [c1', if_true]
      exact ⟨by show 1 ≤ sizeLine; decide, fun d nd => same _ (Same.refl _) e d nd⟩
    · have c1' : ¬ t.acts.length = Pn08.ACTS := fun x => c1 (decide_eq_true (by rw [x]; decide))
      -- what doesn't fit
      have wrong : (t.states ≤ st ∨ c < 1 ∨ 100 < c ∨ fitB t.states ls = false) → Pn08.step ⟨t⟩ (.act st c ls) = (⟨t⟩, Pn08.ok (-1)) := fun hb => by
        unfold Pn08.step
        simp only [c1', if_false]
        cases hp : Pn08.pairs ls with
        | none => rfl
        | some o =>
          simp only
          rw [if_pos]
          rcases hb with a | a | a | a
          · exact .inl a
          · exact .inr (.inl (by omega))
          · exact .inr (.inr (.inl a))
          · refine .inr (.inr (.inr ?_))
            refine Classical.byContradiction fun q => ?_
            rw [(By.fit_some hp).mpr q] at a
            cases a
      refine ⟨_, rfl, _, rfl, p, C.h, dx, _, _, rfl, hH.ins, T.clH, T.hMany, hF_many _ _ _, _, _, rfl, rfl, _, rfl, ?_⟩
      refine ite2 (fun c2 => ?_) (fun c2 => ?_)
      · have c2' : t.states ≤ st := by have := of_decide_eq_true c2; omega
        exact iteT ⟨by show 1 ≤ sizeLine; decide, fun d nd => same _ (Same.refl _) (wrong (.inl c2')) d nd⟩
      · have c2' : ¬ t.states ≤ st := fun x => c2 (decide_eq_true (by omega))
        refine ⟨_, rfl, _, _, rfl, rfl, _, rfl, ?_⟩
        refine ite2 (fun c3 => ?_) (fun c3 => ?_)
        · have c3' : c < 1 := by have := of_decide_eq_true c3; omega
          exact iteT ⟨by show 1 ≤ sizeLine; decide, fun d nd => same _ (Same.refl _) (wrong (.inr (.inl c3'))) d nd⟩
        · have c3' : ¬ c < 1 := fun x => c3 (decide_eq_true (by omega))
          refine ⟨_, rfl, _, _, rfl, rfl, _, rfl, ?_⟩
          refine ite2 (fun c4 => ?_) (fun c4 => ?_)
          · have c4' : 100 < c := by have := of_decide_eq_true c4; omega
            exact iteT ⟨by show 1 ≤ sizeLine; decide, fun d nd => same _ (Same.refl _) (wrong (.inr (.inr (.inl c4')))) d nd⟩
          · have c4' : ¬ 100 < c := fun x => c4 (decide_eq_true (by omega))
            refine ⟨_, rfl, _, rfl, p, C.h, dx, _, _, rfl, hH.ins, T.clH, T.hMany, hF_many _ _ _, l, ls, t.states, rfl, hl, hz, fun H1 s1 => ⟨_, rfl, ?_⟩⟩
            refine ite2 (fun c5 => ?_) (fun c5 => ?_)
            · have c5' : fitB t.states ls = false := by simpa using c5
              exact ⟨by show 1 ≤ sizeLine; decide, fun d nd => same _ s1 (wrong (.inr (.inr (.inr c5')))) d nd⟩
            · have c5' : fitB t.states ls = true := by simpa using c5
              obtain ⟨o, ho⟩ : ∃ o, Pn08.pairs ls = some o := by
                cases hp : Pn08.pairs ls with
                | some o => exact ⟨o, rfl⟩
                | none => rw [By.fit_none hp] at c5'; cases c5'
              have fs := (By.fit_some ho).mp c5'
              obtain ⟨e1, e2, e3⟩ := By.pairs_some ho
              have e : Pn08.step ⟨t⟩ (.act st c ls) = (⟨{ t with acts := t.acts ++ [⟨st, c, o⟩] }⟩, Pn08.ok (t.acts.length : Nat)) := by
                unfold Pn08.step
                simp only [c1', if_false, ho]
                rw [if_neg]
                rintro (a | a | a | a)
                · exact c2' a
                · exact c3' (by omega)
                · exact c4' a
                · exact fs a
              have nd : (o.map (·.1)).Nodup := By.rising_nodup _ (by
                have : ¬ (Pn08.rising (o.map fun x => x.1) = false) := fun q => fs (.inr (.inr q))
                simpa using this)
              have hl1 := s1 _ _ hl
              -- self.acts.append(Act(..))
              refine ⟨_, rfl, p, C.h, dx, _, _, rfl, s1 _ _ hH.ins, T.clH, T.hActs, hF_acts _ _ _, al, _, rfl, .inl (SqL.of (s1 _ _ hH.list)), ?_⟩
              rw [lpm]
              refine ⟨_, rfl, p, C.h, dx, _, _, rfl, s1 _ _ hH.ins, T.clH, T.hActs, hF_acts _ _ _, .inl ⟨rfl, _, SqL.of (s1 _ _ hH.list)⟩, _, rfl, _, rfl, _, rfl, ?_⟩
              refine ⟨_, rfl, l, _, rfl, SqL.of hl1, fun q1 nq1 => ?_⟩
              have s2 : Same H1 (upd H1 q1 (.lst (ev2 ((nv ls).drop 0)))) := same_new nq1
              refine ⟨_, rfl, l, _, rfl, SqL.of (s2 _ _ hl1), fun q2 nq2 => ?_⟩
              have s3 : Same (upd H1 q1 (.lst (ev2 ((nv ls).drop 0)))) (upd (upd H1 q1 (.lst (ev2 ((nv ls).drop 0)))) q2 (.lst (ev2 ((nv ls).drop 1)))) := same_new nq2
              have k1 : ev2 ((nv ls).drop 0) = (o.map fun x => (Sum.inl (x.1 : Int) : Key)).map kV := by
                rw [List.drop_zero, ← ev2_map, e1, List.map_map, List.map_map]; rfl
              have k2 : ev2 ((nv ls).drop 1) = nv (o.map (·.2)) := by rw [← List.map_drop, ← ev2_map, e2]
              have h12 : ∀ x, (upd (upd H1 q1 (.lst (ev2 ((nv ls).drop 0)))) q2 x) q1 = some (.lst (ev2 ((nv ls).drop 0))) := fun x => by
                rw [upd_ne (ne_of_none (show (upd H1 q1 (.lst (ev2 ((nv ls).drop 0)))) q1 = some (.lst (ev2 ((nv ls).drop 0))) from upd_same) nq2)]; exact upd_same
              have s123 : Same H (upd (upd H1 q1 (.lst (ev2 ((nv ls).drop 0)))) q2 (.lst (ev2 ((nv ls).drop 1)))) := (s1.trans s2).trans s3
              refine ⟨q1, q2, o.map fun x => (Sum.inl (x.1 : Int) : Key), nv (o.map (·.2)), rfl, by rw [← k1]; exact SqL.of (h12 _), by rw [← k2]; exact SqL.of upd_same, by simp, fun d nd3 => ?_⟩
              rw [zip_wK, merge_nodup (wK o) [] (by
                have : (wK o).map (·.1) = (o.map (·.1)).map (fun (n : Nat) => (Sum.inl (n : Int) : Key)) := by unfold wK; simp [List.map_map, Function.comp_def]
                rw [List.nil_append, this]
                rw [List.Nodup, List.pairwise_map]
                exact List.Pairwise.imp (fun h q => h (key_inj.mp q)) nd), List.nil_append]
              have s4 := s123.trans (same_new (o := .dK (wK o)) nd3)
              generalize hH4 : upd (upd (upd H1 q1 (.lst (ev2 ((nv ls).drop 0)))) q2 (.lst (ev2 ((nv ls).drop 1)))) d (.dK (wK o)) = H4 at s4
              have hd4 : H4 d = some (.dK (wK o)) := by rw [← hH4]; exact upd_same
              intro x dxx nx ndx nex
              have hd5 : (upd (upd H4 dxx (.own x)) x (.ins C.a dxx [])) d = some (.dK (wK o)) := by rw [upd_ne (ne_of_none hd4 nx), upd_ne (ne_of_none hd4 ndx)]; exact hd4
              refine ⟨x, dxx, d, t.acts.length, ⟨st, c, o⟩, rfl, upd_same, hd5, fun H6 hA6 hN6 kp => ⟨rfl, ?_⟩⟩
              have s6 : Same H H6 := s4.trans (Same.made nx ndx kp)
              refine ⟨al, _, _, rfl, rfl, s6 _ _ hH.list, by rw [List.length_map, lps]; exact small (by omega), ?_⟩
              have npal : p ≠ al := ne_of hH.ins hH.list (by intro q; cases q)
              have hp7 : (upd H6 al (.lst (ps.map V.ref ++ [V.ref x]))) p = some (.ins C.h dx (houF t.states wl al)) := by rw [upd_ne npal]; exact s6 _ _ hH.ins
              have e7 : ps.map V.ref ++ [V.ref x] = (ps ++ [x]).map V.ref := by simp
              refine ⟨_, rfl, by show 1 ≤ sizeLine; decide, fun r nr => ?_⟩
              have nral : r ≠ al := fun q => by rw [q, upd_same] at nr; cases nr
              have nr6 : H6 r = none := by rw [upd_ne nral] at nr; exact nr
              have nr0 : H r = none := s6.free nr6
              have upN : ∀ {q : Addr} {n : Nat}, NoAt C H6 q n → NoAt C (upd (upd H6 al (.lst (ps.map V.ref ++ [V.ref x]))) r (.lst [V.int (t.acts.length : Int)])) q n := fun {q n} ⟨a0, a1, a2, a3⟩ =>
                ⟨a0, a1, a2, by rw [upd_ne (ne_of_none a3 nr6), upd_ne (ne_of a3 (s6 _ _ hH.list) (by intro z; cases z))]; exact a3⟩
              have upA : ∀ {q : Addr} {ac : Pn08.Act}, ActAt C H6 q ac → ActAt C (upd (upd H6 al (.lst (ps.map V.ref ++ [V.ref x]))) r (.lst [V.int (t.acts.length : Int)])) q ac := fun {q ac} ⟨a0, a1, a2, a3, a4⟩ =>
                ⟨a0, a1, a2, by rw [upd_ne (ne_of_none a3 nr6), upd_ne (ne_of a3 (s6 _ _ hH.list) (by intro z; cases z))]; exact a3, by rw [upd_ne (ne_of_none a4 nr6), upd_ne (ne_of a4 (s6 _ _ hH.list) (by intro z; cases z))]; exact a4⟩
              refine k _ r wl al (ps ++ [x]) ?_ nr0 ?_ (fun b ob eb hb hba => ?_) (.inl rfl) (.inl rfl) nwa nral ?_
              · rw [e]
                refine ⟨?_, ?_, ?_, ?_, fun i q hq => ?_⟩
                · rw [upd_ne (ne_of_none (s6 _ _ hH.ins) nr6)]; exact hp7
                · rw [upd_ne (ne_of_none (s6 _ _ hH.wanted) nr6), upd_ne nwa]; exact s6 _ _ hH.wanted
                · rw [upd_ne (fun q => nral q.symm), upd_same, e7]
                · exact paired_more (Paired.mapP (hH.acts.same s6) fun _ _ q => upA q) (upA hA6)
                · by_cases hi : i < ps.length
                  · rw [List.getElem?_append_left hi] at hq
                    exact upN ((hH.nums i q hq).same s6)
                  · rw [List.getElem?_append_right (by omega)] at hq
                    have hi0 : i - ps.length = 0 := by
                      have := (List.getElem?_eq_some_iff.mp hq).1
                      simp only [List.length_cons, List.length_nil] at this
                      omega
                    rw [hi0] at hq
                    obtain rfl : x = q := Option.some.inj hq
                    rw [show i = t.acts.length by omega]
                    exact upN hN6
              · rw [e, upd_same]; rfl
              · rw [upd_ne (ne_of_none eb nr0), upd_ne hba]; exact s6 _ _ eb
              · exact fun q => by rw [q, hH.wanted] at nr0; cases nr0
end
end ByH

set_option maxRecDepth 100000
set_option maxHeartbeats 2000000
/-! ByEn: answers, over what answer_next promises. -/
namespace ByH
open PySem PySem.Spec PyProof.Rows L2 ByR
abbrev sAnswers : Stmt := top 29
abbrev nAnswers : List Str := ["calls", "house", "tape", "told", "answer"]
theorem scAnswers : FnScope nAnswers ["calls"] (defScope sAnswers) := ⟨rfl, rfl, rfl, by decide +kernel, rfl, by decide +kernel, by decide +kernel⟩
/-- the next call answered: the house, the tape and the answer behind it -/
def spNext (K : PySem.W.Frag) (C : Adr) : Sp := fun vs H Q _ => ∃ (H0 : Hp) (p dx wl al tp dxt c : Addr) (ps : List Addr) (t : Pn08.Task) (i : Nat) (l : List Int) (call : List (List Int)) (cs : By.CL),
  vs = [.ref p, .ref tp] ∧ Same H0 H ∧ SqL K H0 c (iv l) ∧ H0 tp = none ∧ HouAt C H p dx wl al ps t ∧ By.Good t ∧ wl ≠ al ∧ TapAt C H tp dxt c i ∧ By.Line (l.drop i) (call :: cs) ∧ PyInside.call PyPn08.bound call = true ∧
  ∀ (H' : Hp) (d wl' al' : Addr) (ps' : List Addr) (i' : Nat), HouAt C H' p dx wl' al' ps' (Pn08Neutral.step ⟨t⟩ call).1.task → TapAt C H' tp dxt c i' → By.Line (l.drop i') cs → H d = none → H' d = some (.lst (iv (Pn08Neutral.step ⟨t⟩ call).2)) →
    (∀ b o, H b = some o → b ≠ p → b ≠ al → b ≠ tp → H' b = some o) → (al' = al ∨ H al' = none) → (wl' = wl ∨ H wl' = none) → wl' ≠ al' → d ≠ al' → d ≠ wl' → Q (.ref d) H'
def spAnswers (K : PySem.W.Frag) : Sp := fun vs H Q _ => ∃ (a : Addr) (l : List Int), vs = [.ref a] ∧ SqL K H a (iv l) ∧ PyPn08.answers_asked l = true ∧
  ∀ (H' : Hp) (p : Addr), H' p = some (.lst (iv (PyPn08.answers l))) → Q (.ref p) H'
theorem asked_short {l : List Int} (h : PyPn08.answers_asked l = true) : (PyPn08.answers l).length ≤ 10000000 := by
  unfold PyPn08.answers_asked at h
  split at h
  · cases h
  · simp only [Bool.and_eq_true] at h
    have := h.2
    unfold PyFlat.short at this
    exact of_decide_eq_true this
theorem small7 {n : Nat} (h : n ≤ 10000000) : n < sizeLine := Nat.lt_of_le_of_lt h (by decide)
theorem good_neutral {t : Pn08.Task} (G : By.Good t) (c : List (List Int)) : By.Good (Pn08Neutral.step ⟨t⟩ c).1.task := by
  unfold Pn08Neutral.step
  split
  · exact G
  · exact By.good_step G _
section
variable {P : Program} {w : World} {K : PySem.W.Frag} {mg : Str → Option Value} {base : Heap} {C : Adr}
theorem ok_answers {kn : Nat} (hkn : 2 ≤ kn) {f fN fH fT fM : Addr} {fd fdN fdH fdT fdM : FuncData} (F : Fun K "answers" "answers" sAnswers f fd) (GN : FnOk P w K mg base CX0 kn fN fdN ["house", "tape"] (spNext K C)) (bN : Binds K fdN ["house", "tape"] []) (gN : mg "answer_next" = some (.ref fN)) (kN : PySem.W.keepIn K (.ref fN) = true)
    (FH : Fun K "__init__" "House.__init__" sHouInit fH fdH) (bH : Binds K fdH ["self"] []) (MH : Mk K C.h fH) (FT : Fun K "__init__" "Tape.__init__" sTapInit fT fdT) (bT : Binds K fdT ["self", "calls"] []) (MT : Mk K C.t fT)
    (FM : Fun K "has_more" "Tape.has_more" sMore fM fdM) (bM : Binds K fdM ["self"] []) (mM : Meth K C.t "has_more" fM) (T : Txt K mg C) : FnOk P w K mg base CX0 (kn + 1) f fd ["calls"] (spAnswers K) := by
  have GH : FnOk P w K mg base CX0 1 fH fdH ["self"] (spHouInit C) := ok_houInit FH T
  have GT : FnOk P w K mg base CX0 1 fT fdT ["self", "calls"] (spTapInit C) := ok_tapInit FT T
  have GM : FnOk P w K mg base CX0 1 fM fdM ["self"] (spMore K C) := ok_more FM T
  refine F.ok scAnswers (fun vs H Q E h => ?_) (fun cdv A outer s H vs Q E hr h => ?_)
  · obtain ⟨a, l, rfl, _⟩ := h
    rfl
  · obtain ⟨a, l, rfl, hl, asked, k⟩ := h
    have hr1 : Room 1 _ := hr.mono (by omega)
    have hr2 : Room 2 _ := hr.mono hkn
    refine ⟨_, pss_cons (ps_set (i := 1) scAnswers.nd rfl (Or.inl rfl) (pe_make0 MH GH hr2 rfl T.gH bH .nil pass0)) (pss_cons (ps_set (i := 2) scAnswers.nd rfl (Or.inl rfl) (pe_make MT GT hr2 rfl T.gT bT .nil pass0 (pa_cons (pv 0) pa_nil)))
      (pss_cons (ps_set (i := 3) scAnswers.nd rfl (Or.inl rfl) (pe_lst pa_nil))
      (pss_cons (ps_while PassesOwn.never (pt_val (pe_meth0 (pv 2) T.clT mM GM hr1 bM .nil pass0))
        (pss_cons (ps_set (i := 4) scAnswers.nd rfl (Or.inl rfl) (pe_call GN hr rfl gN kN bN .nil pass0 (pa_cons (pv 1) (pa_cons (pv 2) pa_nil))))
        (pss_cons (ps_expr (pe_bm PySem.F.plainAttrs_list PySem.F.slot_list_append PySem.F.type_list_append mt_append (pv 3) (pa_cons (pe_callB call_len_seq (by rfl) T.len PySem.boot_len (pa_cons (pv 4) pa_nil)) pa_nil)))
        (pss_one (ps_expr (pe_bm PySem.F.plainAttrs_list PySem.F.slot_list_extend PySem.F.type_list_extend mt_extend (pv 3) (pa_cons (pv 4) pa_nil)))))))
      (pss_one (ps_ret (pv 3)))))), ?_⟩
    obtain ⟨cs0, ln0, eans, ins0, _⟩ := By.asked_line asked
    have short := asked_short asked
    -- house, tape, told
    intro p dx np ndx nex
    refine ⟨p, dx, rfl, upd_same, fun H1 wl al hH nwa nal nwl kp => ⟨rfl, ?_⟩⟩
    have s1 : Same H H1 := Same.made np ndx kp
    refine ⟨_, rfl, ?_⟩
    intro tp dxt ntp ndxt next
    refine ⟨tp, dxt, a, rfl, upd_same, fun H2 hT2 kp2 => ⟨rfl, ?_⟩⟩
    have s2 : Same H1 H2 := Same.made ntp ndxt kp2
    refine ⟨Nat.zero_le _, fun tl ntl => ?_⟩
    have s3 : Same H2 (upd H2 tl (.lst [])) := same_new ntl
    have s23 := s2.trans s3
    have s123 := s1.trans s23
    have hH3 := hH.same s23
    have np0 : H p = none := np
    have ntp0 : H tp = none := s1.free ntp
    have ntl0 : H tl = none := (s1.trans s2).free ntl
    have free2 : ∀ {q : Addr}, (upd (upd H dx (.own p)) p (.ins C.h dx [])) q = none → H q = none := fun {q} h => by
      by_cases e1 : q = p
      · rw [e1]; exact np0
      · rw [upd_ne e1] at h
        by_cases e2 : q = dx
        · rw [e2]; exact ndx
        · rw [upd_ne e2] at h; exact h
    have nal0 : H al = none := free2 nal
    have ntla : tl ≠ al := fun e => by rw [e, s2 _ _ hH.list] at ntl; cases ntl
    have ntlw : tl ≠ wl := fun e => by rw [e, s2 _ _ hH.wanted] at ntl; cases ntl
    refine ⟨fun m σ H' => Same H H' ∧ ∃ (wl al : Addr) (ps : List Addr) (t : Pn08.Task) (i : Nat) (cs : By.CL) (out : List Int) (v : Option V), m = cs.length ∧ σ = [some (.ref a), some (.ref p), some (.ref tp), some (.ref tl), v] ∧ HouAt C H' p dx wl al ps t ∧ By.Good t ∧ wl ≠ al ∧ H al = none ∧
        TapAt C H' tp dxt a i ∧ By.Line (l.drop i) cs ∧ PyInside.calls PyPn08.bound cs = true ∧ H' tl = some (.lst (iv out)) ∧ out ++ By.toldFrom ⟨t⟩ cs = PyPn08.answers l ∧ tl ≠ al ∧ tl ≠ wl,
      ⟨_, s123, wl, al, [], Pn08.init.task, 0, cs0, [], none, rfl, rfl, hH3, By.good_init, nwa, nal0, s3 _ _ hT2, by rw [List.drop_zero]; exact ln0, ins0, upd_same, by rw [List.nil_append, eans], ntla, ntlw⟩, ?_⟩
    rintro m σ H' ⟨sH, wl, al, ps, t, i, cs, out, v, rfl, rfl, hHo, G, nwa, nal0, hTp, ln, ins, htl, eo, ntla, ntlw⟩
    refine ⟨_, rfl, tp, dxt, _, rfl, hTp, by rfl, tp, dxt, a, i, l, rfl, hTp, sH.seq hl, _, rfl, ?_⟩
    refine ite2 (fun c => ?_) (fun c => ?_)
    · have hi : i < l.length := of_decide_eq_true c
      obtain ⟨call, cs', rfl⟩ : ∃ call cs', cs = call :: cs' := by
        cases cs with
        | cons c cs => exact ⟨c, cs, rfl⟩
        | nil =>
          have : (l.drop i).length = 0 := by
            generalize l.drop i = r at ln
            cases ln
            rfl
          rw [List.length_drop] at this
          omega
      have ic := By.inside_cons ins
      have lout : out.length + (By.toldFrom ⟨t⟩ (call :: cs')).length ≤ 10000000 := by rw [← List.length_append, eo]; exact short
      rw [By.told_cons] at lout eo
      simp only [List.length_cons, List.length_append] at lout
      refine ⟨fun σ' H'' => Same H H'' ∧ ∃ (wl al : Addr) (ps : List Addr) (i : Nat) (out : List Int) (v : Option V), σ' = [some (.ref a), some (.ref p), some (.ref tp), some (.ref tl), v] ∧ HouAt C H'' p dx wl al ps (Pn08Neutral.step ⟨t⟩ call).1.task ∧ wl ≠ al ∧ H al = none ∧
          TapAt C H'' tp dxt a i ∧ By.Line (l.drop i) cs' ∧ H'' tl = some (.lst (iv out)) ∧ out ++ By.toldFrom (Pn08Neutral.step ⟨t⟩ call).1 cs' = PyPn08.answers l ∧ tl ≠ al ∧ tl ≠ wl,
        fun σ' H'' ⟨a1, a2, a3, a4, a5, a6, a7, a8, a9, a10, a11, a12, a13, a14, a15, a16, a17⟩ => ⟨_, Nat.lt_succ_self _, a1, a2, a3, a4, _, a5, cs', a6, a7, rfl, a8, a9, good_neutral G call, a10, a11, a12, a13, ic.2, a14, a15, a16, a17⟩, ?_⟩
      refine ⟨_, rfl, _, rfl, H, p, dx, wl, al, tp, dxt, a, ps, t, i, l, call, cs', rfl, sH, hl, ntp0, hHo, G, nwa, hTp, ln, ic.1, fun H4 d wl' al' ps' i' hH4 hT4 ln4 nd hd4 fr al4 wl4 nwa4 nda ndw => ?_⟩
      have ntlp : tl ≠ p := ne_of htl hHo.ins (by intro z; cases z)
      have ntlt : tl ≠ tp := ne_of htl hTp (by intro z; cases z)
      have s4 : Same H H4 := fun b o e => fr b o (sH _ _ e) (ne_of_none e np0) (ne_of_none e nal0) (ne_of_none e ntp0)
      have htl4 : H4 tl = some (.lst (iv out)) := fr _ _ htl ntlp ntla ntlt
      have ndtl : tl ≠ d := ne_of_none htl nd
      have nal4 : H al' = none := by
        rcases al4 with e | e
        · rw [e]; exact nal0
        · exact sH.free e
      have ntla4 : tl ≠ al' := by
        rcases al4 with e | e
        · rw [e]; exact ntla
        · exact ne_of_none htl e
      have ntlw4 : tl ≠ wl' := by
        rcases wl4 with e | e
        · rw [e]; exact ntlw
        · exact ne_of_none htl e
      generalize hans : (Pn08Neutral.step ⟨t⟩ call).2 = ans at hd4 lout eo
      have lans : (((iv ans).length : Nat) : Int) = (ans.length : Int) := by rw [List.length_map]
      -- told.append(len(answer)); told.extend(answer)
      refine ⟨_, rfl, .inl ⟨rfl, _, SqL.of htl4⟩, _, rfl, d, _, rfl, .inl (SqL.of hd4), tl, _, _, rfl, rfl, htl4, by rw [List.length_map]; exact small7 (by omega), ?_⟩
      have e5 : iv out ++ [V.int (((iv ans).length : Nat) : Int)] = iv (out ++ [(ans.length : Int)]) := by rw [lans]; simp [iv]
      rw [e5]
      have hd5 : (upd H4 tl (.lst (iv (out ++ [(ans.length : Int)])))) d = some (.lst (iv ans)) := by rw [upd_ne (fun q => ndtl q.symm)]; exact hd4
      refine ⟨_, rfl, .inl ⟨rfl, _, SqL.of upd_same⟩, _, rfl, tl, d, _, _, rfl, rfl, upd_same, hd5, by simp only [List.length_map, List.length_append, List.length_cons, List.length_nil]; exact Nat.le_of_lt (small7 (by omega)), ?_⟩
      have e6 : iv (out ++ [(ans.length : Int)]) ++ iv ans = iv (out ++ (ans.length : Int) :: ans) := by simp [iv]
      rw [e6]
      have s6 : ∀ x y, Same H (upd (upd H4 tl x) tl y) := fun x y => same_upd (same_upd s4 ntl0) ntl0
      have ne6 : ∀ {b : Addr} {o : HO} {x y : HO}, H4 b = some o → b ≠ tl → (upd (upd H4 tl x) tl y) b = some o := fun h n => by rw [upd_ne n, upd_ne n]; exact h
      have upA : ∀ {q : Addr} {ac : Pn08.Act} {x y : HO}, ActAt C H4 q ac → ActAt C (upd (upd H4 tl x) tl y) q ac := fun {q ac x y} ⟨a0, a1, a2, a3, a4⟩ =>
        ⟨a0, a1, a2, ne6 a3 (ne_of a3 htl4 (by intro z; cases z)), ne6 a4 (ne_of a4 htl4 (by intro z; cases z))⟩
      have upN : ∀ {q : Addr} {n : Nat} {x y : HO}, NoAt C H4 q n → NoAt C (upd (upd H4 tl x) tl y) q n := fun {q n x y} ⟨a0, a1, a2, a3⟩ =>
        ⟨a0, a1, a2, ne6 a3 (ne_of a3 htl4 (by intro z; cases z))⟩
      refine ⟨s6 _ _, wl', al', ps', i', out ++ (ans.length : Int) :: ans, _, rfl, ⟨ne6 hH4.ins (fun q => ntlp q.symm), ne6 hH4.wanted (fun q => ntlw4 q.symm), ne6 hH4.list (fun q => ntla4 q.symm), Paired.mapP hH4.acts fun _ _ q => upA q, fun i q hq => upN (hH4.nums i q hq)⟩, nwa4, nal4, ne6 hT4 (fun q => ntlt q.symm), ln4, upd_same, ?_, ntla4, ntlw4⟩
      rw [← eo]
      simp
    · have hi : ¬ i < l.length := fun x => c (decide_eq_true x)
      have c0 : cs = [] := by
        have : l.drop i = [] := List.drop_eq_nil_of_le (by omega)
        rw [this] at ln
        cases ln; rfl
      subst c0
      rw [By.told_nil, List.append_nil] at eo
      refine ⟨_, rfl, k H' tl ?_⟩
      rw [← eo]; exact htl
end
end ByH

set_option maxRecDepth 100000
set_option maxHeartbeats 2000000
/-! ByNx: answer_next. -/
namespace ByH
open PySem PySem.Spec PyProof.Rows L2 ByR
abbrev sNext : Stmt := top 28
abbrev nNext : List Str := ["house", "tape", "call", "many", "state", "price"]
theorem scNext : FnScope nNext ["house", "tape"] (defScope sNext) := ⟨rfl, rfl, rfl, by decide +kernel, rfl, by decide +kernel, by decide +kernel⟩
theorem upd_upd {H : Hp} {p : Addr} {a b : HO} : upd (upd H p a) p b = upd H p b := by
  funext q
  by_cases e : q = p
  · subst e; rw [upd_same, upd_same]
  · rw [upd_ne e, upd_ne e, upd_ne e]
theorem drop_cons {l r : List Int} {i : Nat} {a : Int} (h : l.drop i = a :: r) : l[i]? = some a ∧ l.drop (i + 1) = r := by
  constructor
  · have := congrArg (fun x => x[0]?) h
    simpa using this
  · have := congrArg (List.drop 1) h
    rw [List.drop_drop] at this
    simpa using this
theorem drop_row {l row t : List Int} {i : Nat} (h : l.drop i = row ++ t) : (l.drop i).take row.length = row ∧ l.drop (i + row.length) = t ∧ (row = [] ∨ i + row.length ≤ l.length) := by
  refine ⟨by rw [h, List.take_left], ?_, ?_⟩
  · rw [← List.drop_drop, h, List.drop_left]
  · have := congrArg List.length h
    rw [List.length_drop, List.length_append] at this
    by_cases e : row = []
    · exact .inl e
    · have : 0 < row.length := List.length_pos_iff.mpr e
      exact .inr (by omega)
theorem nat_row : ∀ {row : List Int}, (∀ z ∈ row, 0 ≤ z) → ∃ g : List Nat, row = g.map fun (n : Nat) => (n : Int)
  | [], _ => ⟨[], rfl⟩
  | a :: row, h => by
    obtain ⟨g, hg⟩ := nat_row (row := row) (fun z hz => h z (by simp [hz]))
    have := h a (by simp)
    exact ⟨a.toNat :: g, by rw [List.map_cons, ← hg, show ((a.toNat : Nat) : Int) = a by omega]⟩
theorem nats_map (g : List Nat) : Pn08Neutral.nats (g.map fun (n : Nat) => (n : Int)) = g := by
  unfold Pn08Neutral.nats
  rw [List.map_map]
  have e : (Int.toNat ∘ fun (n : Nat) => (n : Int)) = id := by funext n; simp
  rw [e, List.map_id]
theorem len_ne {C D : Addr} {a b : Addr} {f g : List (Str × V)} (h : f.length ≠ g.length) : HO.ins C a f ≠ HO.ins D b g := fun e => h (by injection e with _ _ e; rw [e])
theorem hou_tape {C : Adr} {H : Hp} {p dx wl al tp dxt c : Addr} {i : Nat} {ps : List Addr} {t : Pn08.Task} (h : HouAt C H p dx wl al ps t) (ht : TapAt C H tp dxt c i) (o : HO) : HouAt C (upd H tp o) p dx wl al ps t := by
  have n1 : p ≠ tp := ne_of h.ins ht (len_ne (by show 3 ≠ 2; decide))
  have n2 : wl ≠ tp := ne_of h.wanted ht (by intro z; cases z)
  have n3 : al ≠ tp := ne_of h.list ht (by intro z; cases z)
  refine ⟨by rw [upd_ne n1]; exact h.ins, by rw [upd_ne n2]; exact h.wanted, by rw [upd_ne n3]; exact h.list, Paired.mapP h.acts fun q a => ?_, fun i q hq => ?_⟩
  · rintro ⟨n, d1, d2, h1, h2⟩
    exact ⟨n, d1, d2, by rw [upd_ne (ne_of h1 ht (len_ne (by show 5 ≠ 2; decide)))]; exact h1, by rw [upd_ne (ne_of h2 ht (by intro z; cases z))]; exact h2⟩
  · obtain ⟨d1, a, d2, h1⟩ := h.nums i q hq
    exact ⟨d1, a, d2, by rw [upd_ne (ne_of h1 ht (len_ne (by show 5 ≠ 2; decide)))]; exact h1⟩
theorem pick_no {a b : Int} {A B : Prop} (h : a ≠ b) (q : B) : if decide (V.int a = V.int b) = true then A else B := by
  rw [if_neg]
  · exact q
  · intro c; exact h (V.int.inj (of_decide_eq_true c))
theorem pick_yes {a : Int} {A B : Prop} (q : A) : if decide (V.int a = V.int a) = true then A else B := by
  rw [if_pos (decide_eq_true rfl)]; exact q
section
variable {P : Program} {w : World} {K : PySem.W.Frag} {mg : Str → Option Value} {base : Heap} {C : Adr}
/-- the calls of a house -/
structure Cal (P : Program) (w : World) (K : PySem.W.Frag) (mg : Str → Option Value) (base : Heap) (C : Adr) : Prop where
  begins : ∃ f fd, Meth K C.h "begins" f ∧ Binds K fd ["self", "many", "wanted"] [] ∧ FnOk P w K mg base CX0 2 f fd ["self", "many", "wanted"] (spBegins C)
  act : ∃ f fd, Meth K C.h "act" f ∧ Binds K fd ["self", "state", "price", "leads"] [] ∧ FnOk P w K mg base CX0 3 f fd ["self", "state", "price", "leads"] (spAct C)
  chance : ∃ f fd, Meth K C.h "chance" f ∧ Binds K fd ["self", "state"] [] ∧ FnOk P w K mg base CX0 6 f fd ["self", "state"] (spAsk C Pn08.Call.chance)
  cost : ∃ f fd, Meth K C.h "cost" f ∧ Binds K fd ["self", "state"] [] ∧ FnOk P w K mg base CX0 7 f fd ["self", "state"] (spAsk C Pn08.Call.cost)
  likely : ∃ f fd, Meth K C.h "likely" f ∧ Binds K fd ["self"] [] ∧ FnOk P w K mg base CX0 5 f fd ["self"] (spAll C Pn08.Call.likely)
  cheap : ∃ f fd, Meth K C.h "cheap" f ∧ Binds K fd ["self"] [] ∧ FnOk P w K mg base CX0 6 f fd ["self"] (spAll C Pn08.Call.cheap)
  judge : ∃ f fd, Meth K C.h "judge" f ∧ Binds K fd ["self", "state", "rule"] [] ∧ FnOk P w K mg base CX0 7 f fd ["self", "state", "rule"] (spJudge C)
  take : ∃ f fd, Meth K C.t "take" f ∧ Binds K fd ["self"] [] ∧ FnOk P w K mg base CX0 1 f fd ["self"] (spNumber K C)
  row : ∃ f fd, Meth K C.t "take_row" f ∧ Binds K fd ["self"] [] ∧ FnOk P w K mg base CX0 2 f fd ["self"] (spRow K C)
theorem ok_next {f : Addr} {fd : FuncData} (F : Fun K "answer_next" "answer_next" sNext f fd) (S : Cal P w K mg base C) (T : Txt K mg C) : FnOk P w K mg base CX0 8 f fd ["house", "tape"] (spNext K C) := by
  obtain ⟨f1, fd1, m1, b1, G1⟩ := S.begins
  obtain ⟨f2, fd2, m2, b2, G2⟩ := S.act
  obtain ⟨f3, fd3, m3, b3, G3⟩ := S.chance
  obtain ⟨f4, fd4, m4, b4, G4⟩ := S.cost
  obtain ⟨f5, fd5, m5, b5, G5⟩ := S.likely
  obtain ⟨f6, fd6, m6, b6, G6⟩ := S.cheap
  obtain ⟨f7, fd7, m7, b7, G7⟩ := S.judge
  obtain ⟨fN, fdN, mN, bN, GN⟩ := S.take
  obtain ⟨fR, fdR, mR, bR, GR⟩ := S.row
  obtain ⟨_, g0⟩ := T.cBegins
  obtain ⟨_, g1⟩ := T.cAct
  obtain ⟨_, g2⟩ := T.cChance
  obtain ⟨_, g3⟩ := T.cCostC
  obtain ⟨_, g4⟩ := T.cLikely
  obtain ⟨_, g5⟩ := T.cCheap
  obtain ⟨_, g6⟩ := T.cJudge
  refine F.ok scNext (fun vs H Q E h => ?_) (fun cdv A outer s H vs Q E hr h => ?_)
  · obtain ⟨H0, p, dx, wl, al, tp, dxt, c, ps, t, i, l, call, cs, rfl, _⟩ := h
    rfl
  · obtain ⟨H0, p, dx, wl, al, tp, dxt, c, ps, t, i, l, call, cs, rfl, s0, hl, ntp, hH, G, nwa, hTp, ln, ins, k⟩ := h
    have hr1 : Room 1 _ := hr.mono (by decide)
    have hr2 : Room 2 _ := hr.mono (by decide)
    have hr3 : Room 3 _ := hr.mono (by decide)
    have hr5 : Room 5 _ := hr.mono (by decide)
    have hr6 : Room 6 _ := hr.mono (by decide)
    refine ⟨_, pss_cons (ps_set (i := 2) scNext.nd rfl (Or.inl rfl) (pe_meth0 (pv 1) T.clT mN GN hr1 bN .nil pass0))
      (pss_cons (ps_if (pt_cmpR op_eq (pv 2) (pe_glob (v := .int 0) rfl g0 ⟨_, rfl⟩) (nomark _)) (pss_cons (ps_set (i := 3) scNext.nd rfl (Or.inl rfl) (pe_meth0 (pv 1) T.clT mN GN hr1 bN .nil pass0))
        (pss_one (ps_ret (pe_meth (pv 0) T.clH m1 G1 hr2 b1 .nil pass0 (pa_cons (pv 3) (pa_cons (pe_meth0 (pv 1) T.clT mR GR hr2 bR .nil pass0) pa_nil)))))) pss_nil)
      (pss_cons (ps_if (pt_cmpR op_eq (pv 2) (pe_glob (v := .int 1) rfl g1 ⟨_, rfl⟩) (nomark _)) (pss_cons (ps_set (i := 4) scNext.nd rfl (Or.inl rfl) (pe_meth0 (pv 1) T.clT mN GN hr1 bN .nil pass0)) (pss_cons (ps_set (i := 5) scNext.nd rfl (Or.inl rfl) (pe_meth0 (pv 1) T.clT mN GN hr1 bN .nil pass0))
        (pss_one (ps_ret (pe_meth (pv 0) T.clH m2 G2 hr3 b2 .nil pass0 (pa_cons (pv 4) (pa_cons (pv 5) (pa_cons (pe_meth0 (pv 1) T.clT mR GR hr2 bR .nil pass0) pa_nil)))))))) pss_nil)
      (pss_cons (ps_if (pt_cmpR op_eq (pv 2) (pe_glob (v := .int 2) rfl g2 ⟨_, rfl⟩) (nomark _)) (pss_one (ps_ret (pe_meth (pv 0) T.clH m3 G3 hr6 b3 .nil pass0 (pa_cons (pe_meth0 (pv 1) T.clT mN GN hr1 bN .nil pass0) pa_nil)))) pss_nil)
      (pss_cons (ps_if (pt_cmpR op_eq (pv 2) (pe_glob (v := .int 3) rfl g3 ⟨_, rfl⟩) (nomark _)) (pss_one (ps_ret (pe_meth (pv 0) T.clH m4 G4 hr b4 .nil pass0 (pa_cons (pe_meth0 (pv 1) T.clT mN GN hr1 bN .nil pass0) pa_nil)))) pss_nil)
      (pss_cons (ps_if (pt_cmpR op_eq (pv 2) (pe_glob (v := .int 4) rfl g4 ⟨_, rfl⟩) (nomark _)) (pss_one (ps_ret (pe_meth0 (pv 0) T.clH m5 G5 hr5 b5 .nil pass0))) pss_nil)
      (pss_cons (ps_if (pt_cmpR op_eq (pv 2) (pe_glob (v := .int 5) rfl g5 ⟨_, rfl⟩) (nomark _)) (pss_one (ps_ret (pe_meth0 (pv 0) T.clH m6 G6 hr6 b6 .nil pass0))) pss_nil)
      (pss_cons (ps_if (pt_cmpR op_eq (pv 2) (pe_glob (v := .int 6) rfl g6 ⟨_, rfl⟩) (nomark _)) (pss_cons (ps_set (i := 4) scNext.nd rfl (Or.inl rfl) (pe_meth0 (pv 1) T.clT mN GN hr1 bN .nil pass0))
        (pss_one (ps_ret (pe_meth (pv 0) T.clH m7 G7 hr b7 .nil pass0 (pa_cons (pv 4) (pa_cons (pe_meth0 (pv 1) T.clT mR GR hr2 bR .nil pass0) pa_nil)))))) pss_nil)
      (pss_one ps_never)))))))), ?_⟩
    have hou : ∀ o, HouAt C (upd H tp o) p dx wl al ps t := hou_tape hH hTp
    have sq : ∀ o o', SqL K (upd (upd H tp o) tp o') c (iv l) := fun o o' => (same_upd (same_upd s0 ntp) ntp).seq hl
    have sq1 : ∀ o, SqL K (upd H tp o) c (iv l) := fun o => (same_upd s0 ntp).seq hl
    have npt : p ≠ tp := ne_of hH.ins hTp (len_ne (by show 3 ≠ 2; decide))
    have free : ∀ {o : HO} {d : Addr}, (upd H tp o) d = none → H d = none ∧ d ≠ tp := fun {o d} h => by
      have n : d ≠ tp := fun e => by rw [e, upd_same] at h; cases h
      rw [upd_ne n] at h
      exact ⟨h, n⟩
    -- a question's end
    have fin : ∀ (j : Nat) (H' : Hp) (d : Addr), Same (upd H tp (.ins C.t dxt (tapF c j))) H' → (upd H tp (.ins C.t dxt (tapF c j))) d = none → (Pn08Neutral.step ⟨t⟩ call).1.task = t → By.Line (l.drop j) cs → H' d = some (.lst (iv (Pn08Neutral.step ⟨t⟩ call).2)) → Q (.ref d) H' := fun j H' d sj nd et lnj hd => by
      have fr := free nd
      refine k H' d wl al ps j (by rw [et]; exact (hou _).same sj) (sj _ _ upd_same) lnj fr.1 hd (fun b o e _ _ hb => sj _ _ (by rw [upd_ne hb]; exact e)) (.inl rfl) (.inl rfl) nwa ?_ ?_
      · exact fun e => by rw [e, hH.list] at fr; cases fr.1
      · exact fun e => by rw [e, hH.wanted] at fr; cases fr.1
    generalize hr0 : l.drop i = rest at ln
    have d0 := fun a r (e : rest = a :: r) => drop_cons (hr0.trans e)
    cases ln with
    | @begins x n row t' cs en ln' =>
      obtain ⟨x0, x1⟩ := d0 _ _ rfl
      obtain ⟨y0, y1⟩ := drop_cons x1
      obtain ⟨z0, z1⟩ := drop_cons y1
      obtain ⟨w0, w1, w2⟩ := drop_row z1
      obtain ⟨bx, brow, bnn⟩ := By.inside_two (.inl rfl) ins
      obtain ⟨nn, rfl⟩ : ∃ nn : Nat, x = (nn : Int) := ⟨x.toNat, by omega⟩
      obtain ⟨g, rfl⟩ := nat_row bnn
      subst en
      have wl2 : i + 1 + 1 + 1 + (g.map fun (n : Nat) => (n : Int)).length ≤ l.length := by
        have := (List.getElem?_eq_some_iff.mp z0).1
        rcases w2 with e | e
        · rw [e]; simp only [List.length_nil]; omega
        · omega
      refine ⟨_, rfl, tp, dxt, _, rfl, hTp, rfl, tp, dxt, c, i, l, _, rfl, hTp, sq1, x0, ?_⟩
      refine ⟨_, rfl, rfl, _, rfl, pick_yes ?_⟩
      refine ⟨_, rfl, tp, dxt, _, rfl, upd_same, rfl, tp, dxt, c, i + 1, l, _, rfl, upd_same, sq _, y0, ?_⟩
      rw [upd_upd]
      refine ⟨_, rfl, p, dx, _, rfl, (hou _).ins, hF_begins _ _ _, _, rfl, _, rfl, tp, dxt, _, rfl, upd_same, rfl, tp, dxt, c, i + 1 + 1, _, l, rfl, upd_same, sq _, z0, wl2, fun r nr => ?_⟩
      rw [upd_upd, w0, iv_nv]
      have fr := free nr
      have nr2 : (upd H tp (.ins C.t dxt (tapF c (i + 1 + 1 + 1 + (g.map fun (n : Nat) => (n : Int)).length)))) r = none := by rw [upd_ne fr.2]; exact fr.1
      refine ⟨p, dx, wl, al, r, ps, t, nn, g, rfl, (hou _).same (same_new nr2), nwa, upd_same, fun H' d wl' al' ps' hH' nd hd fr' ha hw nwa' nda ndw => ?_⟩
      have ndr : d ≠ r := fun e => by rw [e, upd_same] at nd; cases nd
      have nd2 := nd
      rw [upd_ne ndr] at nd2
      have frd := free nd2
      have est : Pn08Neutral.step ⟨t⟩ [[0, (nn : Int)], g.map fun (n : Nat) => (n : Int)] = ((Pn08.step ⟨t⟩ (.begins nn g)).1, Pn08Neutral.out (Pn08.step ⟨t⟩ (.begins nn g)).2) := by
        show ((Pn08.step ⟨t⟩ (.begins ((nn : Int)).toNat (Pn08Neutral.nats (g.map fun (n : Nat) => (n : Int))))).1, Pn08Neutral.out (Pn08.step ⟨t⟩ (.begins ((nn : Int)).toNat (Pn08Neutral.nats (g.map fun (n : Nat) => (n : Int))))).2) = _
        rw [nats_map, Int.toNat_natCast]
      have any : ∀ {q : Addr} {o : HO}, (upd (upd H tp o) r (.lst (nv g))) q = none → H q = none := fun {q o} e => by
        have n : q ≠ r := fun e' => by rw [e', upd_same] at e; cases e
        rw [upd_ne n] at e; exact (free e).1
      refine k H' d wl' al' ps' _ (by rw [est]; exact hH') (fr' _ _ (by rw [upd_ne (fun e => fr.2 e.symm)]; exact upd_same) (fun e => npt e.symm) (fun e => by have := hH.list; rw [← e, hTp] at this; cases this)) (by rw [w1]; exact ln') frd.1 (by rw [est]; exact hd) (fun b o e hb hba hbt => fr' _ _ (by rw [upd_ne (ne_of_none e fr.1), upd_ne hbt]; exact e) hb hba) ?_ ?_ nwa' nda ndw
      · exact ha.imp id any
      · rcases hw with e | e | e
        · exact .inl e
        · exact .inr (by rw [e]; exact fr.1)
        · exact .inr (any e)
    | @act x y n row t' cs en ln' =>
      obtain ⟨x0, x1⟩ := d0 _ _ rfl
      obtain ⟨y0, y1⟩ := drop_cons x1
      obtain ⟨v0, v1⟩ := drop_cons y1
      obtain ⟨z0, z1⟩ := drop_cons v1
      obtain ⟨w0, w1, w2⟩ := drop_row z1
      obtain ⟨bx, by', brow, bnn⟩ := By.inside_three ins
      obtain ⟨st, rfl⟩ : ∃ st : Nat, x = (st : Int) := ⟨x.toNat, by omega⟩
      obtain ⟨pr, rfl⟩ : ∃ pr : Nat, y = (pr : Int) := ⟨y.toNat, by omega⟩
      obtain ⟨g, rfl⟩ := nat_row bnn
      subst en
      have wl2 : i + 1 + 1 + 1 + 1 + (g.map fun (n : Nat) => (n : Int)).length ≤ l.length := by
        have := (List.getElem?_eq_some_iff.mp z0).1
        rcases w2 with e | e
        · rw [e]; simp only [List.length_nil]; omega
        · omega
      refine ⟨_, rfl, tp, dxt, _, rfl, hTp, rfl, tp, dxt, c, i, l, _, rfl, hTp, sq1, x0, ?_⟩
      refine ⟨_, rfl, rfl, _, rfl, pick_no (by decide) ?_⟩
      refine ⟨_, rfl, rfl, _, rfl, pick_yes ?_⟩
      refine ⟨_, rfl, tp, dxt, _, rfl, upd_same, rfl, tp, dxt, c, i + 1, l, _, rfl, upd_same, sq _, y0, ?_⟩
      rw [upd_upd]
      refine ⟨_, rfl, tp, dxt, _, rfl, upd_same, rfl, tp, dxt, c, i + 1 + 1, l, _, rfl, upd_same, sq _, v0, ?_⟩
      rw [upd_upd]
      refine ⟨_, rfl, p, dx, _, rfl, (hou _).ins, hF_act _ _ _, _, rfl, _, rfl, _, rfl, tp, dxt, _, rfl, upd_same, rfl, tp, dxt, c, i + 1 + 1 + 1, _, l, rfl, upd_same, sq _, z0, wl2, fun r nr => ?_⟩
      rw [upd_upd, w0, iv_nv]
      have fr := free nr
      have nr2 : (upd H tp (.ins C.t dxt (tapF c (i + 1 + 1 + 1 + 1 + (g.map fun (n : Nat) => (n : Int)).length)))) r = none := by rw [upd_ne fr.2]; exact fr.1
      have nral : r ≠ al := fun e => by have := hH.list; rw [← e, fr.1] at this; cases this
      rw [List.length_map] at brow
      refine ⟨p, dx, wl, al, r, ps, t, st, pr, g, rfl, (hou _).same (same_new nr2), G, nwa, upd_same, nral, by omega, fun H' d wl' al' ps' hH' nd hd fr' ha hw nwa' nda ndw => ?_⟩
      have ndr : d ≠ r := fun e => by rw [e, upd_same] at nd; cases nd
      have nd2 := nd
      rw [upd_ne ndr] at nd2
      have frd := free nd2
      have est : Pn08Neutral.step ⟨t⟩ [[1, (st : Int), (pr : Int)], g.map fun (n : Nat) => (n : Int)] = ((Pn08.step ⟨t⟩ (.act st pr g)).1, Pn08Neutral.out (Pn08.step ⟨t⟩ (.act st pr g)).2) := by
        show ((Pn08.step ⟨t⟩ (.act ((st : Int)).toNat ((pr : Int)).toNat (Pn08Neutral.nats (g.map fun (n : Nat) => (n : Int))))).1, Pn08Neutral.out (Pn08.step ⟨t⟩ (.act ((st : Int)).toNat ((pr : Int)).toNat (Pn08Neutral.nats (g.map fun (n : Nat) => (n : Int))))).2) = _
        rw [nats_map, Int.toNat_natCast, Int.toNat_natCast]
      have any : ∀ {q : Addr} {o : HO}, (upd (upd H tp o) r (.lst (nv g))) q = none → H q = none := fun {q o} e => by
        have n : q ≠ r := fun e' => by rw [e', upd_same] at e; cases e
        rw [upd_ne n] at e; exact (free e).1
      refine k H' d wl' al' ps' _ (by rw [est]; exact hH') (fr' _ _ (by rw [upd_ne (fun e => fr.2 e.symm)]; exact upd_same) (fun e => npt e.symm) (fun e => by have := hH.list; rw [← e, hTp] at this; cases this)) (by rw [w1]; exact ln') frd.1 (by rw [est]; exact hd) (fun b o e hb hba hbt => fr' _ _ (by rw [upd_ne (ne_of_none e fr.1), upd_ne hbt]; exact e) hb hba) ?_ ?_ nwa' nda ndw
      · exact ha.imp id any
      · rcases hw with e | e | e
        · exact .inl e
        · exact e.elim
        · exact .inr (any e)
    | @chance x t' cs ln' =>
      obtain ⟨x0, x1⟩ := d0 _ _ rfl
      obtain ⟨y0, y1⟩ := drop_cons x1
      have bx := By.inside_one (.inl rfl) ins
      obtain ⟨st, rfl⟩ : ∃ st : Nat, x = (st : Int) := ⟨x.toNat, by omega⟩
      refine ⟨_, rfl, tp, dxt, _, rfl, hTp, rfl, tp, dxt, c, i, l, _, rfl, hTp, sq1, x0, ?_⟩
      refine ⟨_, rfl, rfl, _, rfl, pick_no (by decide) ?_⟩
      refine ⟨_, rfl, rfl, _, rfl, pick_no (by decide) ?_⟩
      refine ⟨_, rfl, rfl, _, rfl, pick_yes ?_⟩
      refine ⟨_, rfl, p, dx, _, rfl, (hou _).ins, hF_chance _ _ _, _, rfl, tp, dxt, _, rfl, upd_same, rfl, tp, dxt, c, i + 1, l, _, rfl, upd_same, sq _, y0, ?_⟩
      rw [upd_upd]
      refine ⟨p, dx, wl, al, ps, t, st, rfl, hou _, G, fun H' d sj nd hd => fin _ H' d sj nd ?_ (by rw [y1]; exact ln') hd⟩
      show (Pn08.step ⟨t⟩ (.chance st)).1.task = t
      unfold Pn08.step; simp only; split <;> rfl
    | @cost x t' cs ln' =>
      obtain ⟨x0, x1⟩ := d0 _ _ rfl
      obtain ⟨y0, y1⟩ := drop_cons x1
      have bx := By.inside_one (.inr rfl) ins
      obtain ⟨st, rfl⟩ : ∃ st : Nat, x = (st : Int) := ⟨x.toNat, by omega⟩
      refine ⟨_, rfl, tp, dxt, _, rfl, hTp, rfl, tp, dxt, c, i, l, _, rfl, hTp, sq1, x0, ?_⟩
      refine ⟨_, rfl, rfl, _, rfl, pick_no (by decide) ?_⟩
      refine ⟨_, rfl, rfl, _, rfl, pick_no (by decide) ?_⟩
      refine ⟨_, rfl, rfl, _, rfl, pick_no (by decide) ?_⟩
      refine ⟨_, rfl, rfl, _, rfl, pick_yes ?_⟩
      refine ⟨_, rfl, p, dx, _, rfl, (hou _).ins, hF_cost _ _ _, _, rfl, tp, dxt, _, rfl, upd_same, rfl, tp, dxt, c, i + 1, l, _, rfl, upd_same, sq _, y0, ?_⟩
      rw [upd_upd]
      refine ⟨p, dx, wl, al, ps, t, st, rfl, hou _, G, fun H' d sj nd hd => fin _ H' d sj nd ?_ (by rw [y1]; exact ln') hd⟩
      show (Pn08.step ⟨t⟩ (.cost st)).1.task = t
      unfold Pn08.step; simp only; split <;> rfl
    | @likely t' cs ln' =>
      obtain ⟨x0, x1⟩ := d0 _ _ rfl
      refine ⟨_, rfl, tp, dxt, _, rfl, hTp, rfl, tp, dxt, c, i, l, _, rfl, hTp, sq1, x0, ?_⟩
      refine ⟨_, rfl, rfl, _, rfl, pick_no (by decide) ?_⟩
      refine ⟨_, rfl, rfl, _, rfl, pick_no (by decide) ?_⟩
      refine ⟨_, rfl, rfl, _, rfl, pick_no (by decide) ?_⟩
      refine ⟨_, rfl, rfl, _, rfl, pick_no (by decide) ?_⟩
      refine ⟨_, rfl, rfl, _, rfl, pick_yes ?_⟩
      exact ⟨_, rfl, p, dx, _, rfl, (hou _).ins, hF_likely _ _ _, p, dx, wl, al, ps, t, rfl, hou _, G, fun H' d sj nd hd => fin _ H' d sj nd rfl (by rw [x1]; exact ln') hd⟩
    | @cheap t' cs ln' =>
      obtain ⟨x0, x1⟩ := d0 _ _ rfl
      refine ⟨_, rfl, tp, dxt, _, rfl, hTp, rfl, tp, dxt, c, i, l, _, rfl, hTp, sq1, x0, ?_⟩
      refine ⟨_, rfl, rfl, _, rfl, pick_no (by decide) ?_⟩
      refine ⟨_, rfl, rfl, _, rfl, pick_no (by decide) ?_⟩
      refine ⟨_, rfl, rfl, _, rfl, pick_no (by decide) ?_⟩
      refine ⟨_, rfl, rfl, _, rfl, pick_no (by decide) ?_⟩
      refine ⟨_, rfl, rfl, _, rfl, pick_no (by decide) ?_⟩
      refine ⟨_, rfl, rfl, _, rfl, pick_yes ?_⟩
      exact ⟨_, rfl, p, dx, _, rfl, (hou _).ins, hF_cheap _ _ _, p, dx, wl, al, ps, t, rfl, hou _, G, fun H' d sj nd hd => fin _ H' d sj nd rfl (by rw [x1]; exact ln') hd⟩
    | @judge x n row t' cs en ln' =>
      obtain ⟨x0, x1⟩ := d0 _ _ rfl
      obtain ⟨y0, y1⟩ := drop_cons x1
      obtain ⟨z0, z1⟩ := drop_cons y1
      obtain ⟨w0, w1, w2⟩ := drop_row z1
      obtain ⟨bx, brow, bnn⟩ := By.inside_two (.inr rfl) ins
      obtain ⟨st, rfl⟩ : ∃ st : Nat, x = (st : Int) := ⟨x.toNat, by omega⟩
      obtain ⟨g, rfl⟩ := nat_row bnn
      subst en
      have wl2 : i + 1 + 1 + 1 + (g.map fun (n : Nat) => (n : Int)).length ≤ l.length := by
        have := (List.getElem?_eq_some_iff.mp z0).1
        rcases w2 with e | e
        · rw [e]; simp only [List.length_nil]; omega
        · omega
      refine ⟨_, rfl, tp, dxt, _, rfl, hTp, rfl, tp, dxt, c, i, l, _, rfl, hTp, sq1, x0, ?_⟩
      refine ⟨_, rfl, rfl, _, rfl, pick_no (by decide) ?_⟩
      refine ⟨_, rfl, rfl, _, rfl, pick_no (by decide) ?_⟩
      refine ⟨_, rfl, rfl, _, rfl, pick_no (by decide) ?_⟩
      refine ⟨_, rfl, rfl, _, rfl, pick_no (by decide) ?_⟩
      refine ⟨_, rfl, rfl, _, rfl, pick_no (by decide) ?_⟩
      refine ⟨_, rfl, rfl, _, rfl, pick_no (by decide) ?_⟩
      refine ⟨_, rfl, rfl, _, rfl, pick_yes ?_⟩
      refine ⟨_, rfl, tp, dxt, _, rfl, upd_same, rfl, tp, dxt, c, i + 1, l, _, rfl, upd_same, sq _, y0, ?_⟩
      rw [upd_upd]
      refine ⟨_, rfl, p, dx, _, rfl, (hou _).ins, hF_judge _ _ _, _, rfl, _, rfl, tp, dxt, _, rfl, upd_same, rfl, tp, dxt, c, i + 1 + 1, _, l, rfl, upd_same, sq _, z0, wl2, fun r nr => ?_⟩
      rw [upd_upd, w0, iv_nv]
      have fr := free nr
      have nr2 : (upd H tp (.ins C.t dxt (tapF c (i + 1 + 1 + 1 + (g.map fun (n : Nat) => (n : Int)).length)))) r = none := by rw [upd_ne fr.2]; exact fr.1
      rw [List.length_map] at brow
      have est : Pn08Neutral.step ⟨t⟩ [[6, (st : Int)], g.map fun (n : Nat) => (n : Int)] = ((Pn08.step ⟨t⟩ (.judge st g)).1, Pn08Neutral.out (Pn08.step ⟨t⟩ (.judge st g)).2) := by
        show ((Pn08.step ⟨t⟩ (.judge ((st : Int)).toNat (Pn08Neutral.nats (g.map fun (n : Nat) => (n : Int))))).1, Pn08Neutral.out (Pn08.step ⟨t⟩ (.judge ((st : Int)).toNat (Pn08Neutral.nats (g.map fun (n : Nat) => (n : Int))))).2) = _
        rw [nats_map, Int.toNat_natCast]
      refine ⟨p, dx, wl, al, r, ps, t, st, g, rfl, (hou _).same (same_new nr2), G, upd_same, by omega, fun H' d sj nd hd => ?_⟩
      have ndr : d ≠ r := fun e => by rw [e, upd_same] at nd; cases nd
      rw [upd_ne ndr] at nd
      refine fin _ H' d ((same_new nr2).trans sj) nd ?_ (by rw [w1]; exact ln') (by rw [est]; exact hd)
      rw [est]
      show (Pn08.step ⟨t⟩ (.judge st g)).1.task = t
      unfold Pn08.step
      simp only
      split
      · rfl
      · split <;> rfl
end
end ByH

set_option maxRecDepth 100000
set_option maxHeartbeats 4000000
/-! ByZz: the end. -/
namespace ByH
open PySem PySem.Spec PyProof.Rows L2 ByR
theorem all_mk {P : Program} {w : World} {K : PySem.W.Frag} {h : Heap} {mg : Str → Option Value} {fa : Addr} {CAct : Addr} {CValues : Addr} {CSearch : Addr} {CHouse : Addr} {CTape : Addr} {f0 : Addr} {od0 an0 : Option Addr} {sl0 : Array (Option Value)} {oc0 kV0 dc0 pm0 cd0 ct0 : Value} {f1 : Addr} {od1 an1 : Option Addr} {sl1 : Array (Option Value)} {oc1 kV1 dc1 pm1 cd1 ct1 : Value} {f2 : Addr} {od2 an2 : Option Addr} {sl2 : Array (Option Value)} {oc2 kV2 dc2 pm2 cd2 ct2 : Value} {f3 : Addr} {od3 an3 : Option Addr} {sl3 : Array (Option Value)} {oc3 kV3 dc3 pm3 cd3 ct3 : Value} {f4 : Addr} {od4 an4 : Option Addr} {sl4 : Array (Option Value)} {oc4 kV4 dc4 pm4 cd4 ct4 : Value} {f5 : Addr} {od5 an5 : Option Addr} {sl5 : Array (Option Value)} {oc5 kV5 dc5 pm5 cd5 ct5 : Value} {f6 : Addr} {od6 an6 : Option Addr} {sl6 : Array (Option Value)} {oc6 kV6 dc6 pm6 cd6 ct6 : Value} {f7 : Addr} {od7 an7 : Option Addr} {sl7 : Array (Option Value)} {oc7 kV7 dc7 pm7 cd7 ct7 : Value} {f8 : Addr} {od8 an8 : Option Addr} {sl8 : Array (Option Value)} {oc8 kV8 dc8 pm8 cd8 ct8 : Value} {f9 : Addr} {od9 an9 : Option Addr} {sl9 : Array (Option Value)} {oc9 kV9 dc9 pm9 cd9 ct9 : Value} {f10 : Addr} {od10 an10 : Option Addr} {sl10 : Array (Option Value)} {oc10 kV10 dc10 pm10 cd10 ct10 : Value} {f11 : Addr} {od11 an11 : Option Addr} {sl11 : Array (Option Value)} {oc11 kV11 dc11 pm11 cd11 ct11 : Value} {f12 : Addr} {od12 an12 : Option Addr} {sl12 : Array (Option Value)} {oc12 kV12 dc12 pm12 cd12 ct12 : Value} {f13 : Addr} {od13 an13 : Option Addr} {sl13 : Array (Option Value)} {oc13 kV13 dc13 pm13 cd13 ct13 : Value} {f14 : Addr} {od14 an14 : Option Addr} {sl14 : Array (Option Value)} {oc14 kV14 dc14 pm14 cd14 ct14 : Value} {f15 : Addr} {od15 an15 : Option Addr} {sl15 : Array (Option Value)} {oc15 kV15 dc15 pm15 cd15 ct15 : Value} {f16 : Addr} {od16 an16 : Option Addr} {sl16 : Array (Option Value)} {oc16 kV16 dc16 pm16 cd16 ct16 : Value} {f17 : Addr} {od17 an17 : Option Addr} {sl17 : Array (Option Value)} {oc17 kV17 dc17 pm17 cd17 ct17 : Value} {f18 : Addr} {od18 an18 : Option Addr} {sl18 : Array (Option Value)} {oc18 kV18 dc18 pm18 cd18 ct18 : Value} {f19 : Addr} {od19 an19 : Option Addr} {sl19 : Array (Option Value)} {oc19 kV19 dc19 pm19 cd19 ct19 : Value} {f20 : Addr} {od20 an20 : Option Addr} {sl20 : Array (Option Value)} {oc20 kV20 dc20 pm20 cd20 ct20 : Value} {f21 : Addr} {od21 an21 : Option Addr} {sl21 : Array (Option Value)} {oc21 kV21 dc21 pm21 cd21 ct21 : Value} {f22 : Addr} {od22 an22 : Option Addr} {sl22 : Array (Option Value)} {oc22 kV22 dc22 pm22 cd22 ct22 : Value} {f23 : Addr} {od23 an23 : Option Addr} {sl23 : Array (Option Value)} {oc23 kV23 dc23 pm23 cd23 ct23 : Value} {f24 : Addr} {od24 an24 : Option Addr} {sl24 : Array (Option Value)} {oc24 kV24 dc24 pm24 cd24 ct24 : Value} {f25 : Addr} {od25 an25 : Option Addr} {sl25 : Array (Option Value)} {oc25 kV25 dc25 pm25 cd25 ct25 : Value} {f26 : Addr} {od26 an26 : Option Addr} {sl26 : Array (Option Value)} {oc26 kV26 dc26 pm26 cd26 ct26 : Value} {f27 : Addr} {od27 an27 : Option Addr} {sl27 : Array (Option Value)} {oc27 kV27 dc27 pm27 cd27 ct27 : Value} {f28 : Addr} {od28 an28 : Option Addr} {sl28 : Array (Option Value)} {oc28 kV28 dc28 pm28 cd28 ct28 : Value} {f29 : Addr} {od29 an29 : Option Addr} {sl29 : Array (Option Value)} {oc29 kV29 dc29 pm29 cd29 ct29 : Value} {f30 : Addr} {od30 an30 : Option Addr} {sl30 : Array (Option Value)} {oc30 kV30 dc30 pm30 cd30 ct30 : Value} {f31 : Addr} {od31 an31 : Option Addr} {sl31 : Array (Option Value)} {oc31 kV31 dc31 pm31 cd31 ct31 : Value} {f32 : Addr} {od32 an32 : Option Addr} {sl32 : Array (Option Value)} {oc32 kV32 dc32 pm32 cd32 ct32 : Value} {f33 : Addr} {od33 an33 : Option Addr} {sl33 : Array (Option Value)} {oc33 kV33 dc33 pm33 cd33 ct33 : Value} {f34 : Addr} {od34 an34 : Option Addr} {sl34 : Array (Option Value)} {oc34 kV34 dc34 pm34 cd34 ct34 : Value} {f35 : Addr} {od35 an35 : Option Addr} {sl35 : Array (Option Value)} {oc35 kV35 dc35 pm35 cd35 ct35 : Value} {f36 : Addr} {od36 an36 : Option Addr} {sl36 : Array (Option Value)} {oc36 kV36 dc36 pm36 cd36 ct36 : Value} {f37 : Addr} {od37 an37 : Option Addr} {sl37 : Array (Option Value)} {oc37 kV37 dc37 pm37 cd37 ct37 : Value} {t_MOST_STATES : Tok} {t_MOST_ACTS : Tok} {t_MOST_COST : Tok} {t_MOST_WEIGHT : Tok} {t_WRONG : Tok} {t_NO_STATE : Tok} {t_NOT_SURE : Tok} {t_FULL : Tok} {t_BEGINS : Tok} {t_ACT : Tok} {t_CHANCE : Tok} {t_COST : Tok} {t_LIKELY : Tok} {t_CHEAP : Tok} {t_JUDGE : Tok} (X : K.In h) (G : h.Ns mainGlobals mg) (hfa : mg "answers" = some (.ref fa))
    (g_Act : PySem.W.nsIn K mainGlobals "Act" = some (some (.ref CAct)))
    (pg_Act : PySem.W.plainGet K CAct Str.empty = true)
    (hd_Act : PySem.W.hasDictIn K CAct = true)
    (po_Act : PySem.W.plainOver K CAct = true)
    (sa_Act : PySem.W.findIn K (.ref CAct) "__setattr__" = some (some (.builtin "object.__setattr__")))
    (mk_Act : PySem.W.makesIn K CAct = true)
    (kc_Act : PySem.W.keepIn K (.ref CAct) = true)
    (n_Act_number : PySem.W.findIn K (.ref CAct) "number" = some none)
    (n_Act_state : PySem.W.findIn K (.ref CAct) "state" = some none)
    (n_Act_price : PySem.W.findIn K (.ref CAct) "price" = some none)
    (n_Act_weights : PySem.W.findIn K (.ref CAct) "weights" = some none)
    (n_Act_whole : PySem.W.findIn K (.ref CAct) "whole" = some none)
    (g_Values : PySem.W.nsIn K mainGlobals "Values" = some (some (.ref CValues)))
    (pg_Values : PySem.W.plainGet K CValues Str.empty = true)
    (hd_Values : PySem.W.hasDictIn K CValues = true)
    (po_Values : PySem.W.plainOver K CValues = true)
    (sa_Values : PySem.W.findIn K (.ref CValues) "__setattr__" = some (some (.builtin "object.__setattr__")))
    (mk_Values : PySem.W.makesIn K CValues = true)
    (kc_Values : PySem.W.keepIn K (.ref CValues) = true)
    (n_Values_tops : PySem.W.findIn K (.ref CValues) "tops" = some none)
    (n_Values_bottom : PySem.W.findIn K (.ref CValues) "bottom" = some none)
    (g_Search : PySem.W.nsIn K mainGlobals "Search" = some (some (.ref CSearch)))
    (pg_Search : PySem.W.plainGet K CSearch Str.empty = true)
    (hd_Search : PySem.W.hasDictIn K CSearch = true)
    (po_Search : PySem.W.plainOver K CSearch = true)
    (sa_Search : PySem.W.findIn K (.ref CSearch) "__setattr__" = some (some (.builtin "object.__setattr__")))
    (mk_Search : PySem.W.makesIn K CSearch = true)
    (kc_Search : PySem.W.keepIn K (.ref CSearch) = true)
    (n_Search_many : PySem.W.findIn K (.ref CSearch) "many" = some none)
    (n_Search_wanted : PySem.W.findIn K (.ref CSearch) "wanted" = some none)
    (n_Search_acts : PySem.W.findIn K (.ref CSearch) "acts" = some none)
    (n_Search_goal : PySem.W.findIn K (.ref CSearch) "goal" = some none)
    (n_Search_rate : PySem.W.findIn K (.ref CSearch) "rate" = some none)
    (g_House : PySem.W.nsIn K mainGlobals "House" = some (some (.ref CHouse)))
    (pg_House : PySem.W.plainGet K CHouse Str.empty = true)
    (hd_House : PySem.W.hasDictIn K CHouse = true)
    (po_House : PySem.W.plainOver K CHouse = true)
    (sa_House : PySem.W.findIn K (.ref CHouse) "__setattr__" = some (some (.builtin "object.__setattr__")))
    (mk_House : PySem.W.makesIn K CHouse = true)
    (kc_House : PySem.W.keepIn K (.ref CHouse) = true)
    (n_House_many : PySem.W.findIn K (.ref CHouse) "many" = some none)
    (n_House_wanted : PySem.W.findIn K (.ref CHouse) "wanted" = some none)
    (n_House_acts : PySem.W.findIn K (.ref CHouse) "acts" = some none)
    (g_Tape : PySem.W.nsIn K mainGlobals "Tape" = some (some (.ref CTape)))
    (pg_Tape : PySem.W.plainGet K CTape Str.empty = true)
    (hd_Tape : PySem.W.hasDictIn K CTape = true)
    (po_Tape : PySem.W.plainOver K CTape = true)
    (sa_Tape : PySem.W.findIn K (.ref CTape) "__setattr__" = some (some (.builtin "object.__setattr__")))
    (mk_Tape : PySem.W.makesIn K CTape = true)
    (kc_Tape : PySem.W.keepIn K (.ref CTape) = true)
    (n_Tape_calls : PySem.W.findIn K (.ref CTape) "calls" = some none)
    (n_Tape_place : PySem.W.findIn K (.ref CTape) "place" = some none)
    (a0 : PySem.W.findIn K (.ref CAct) "__init__" = some (some (.ref f0)))
    (i0 : PySem.W.isFn K (.ref f0) = true)
    (l0 : K.lookup f0 = some ⟨oc0, od0, .func (PySem.W.fnOf "__init__" "Act.__init__" (defArgs (inClass (top 17) 0)) (defBody (inClass (top 17) 0)) (defScope (inClass (top 17) 0)) .none kV0 dc0 pm0 an0 cd0 ct0), sl0⟩)
    (c0 : PySem.W.codeIn K cd0 "Act.__init__" = true)
    (k0 : PySem.W.keepIn K (.ref f0) = true)
    (a1 : PySem.W.findIn K (.ref CAct) "may_lead_to" = some (some (.ref f1)))
    (i1 : PySem.W.isFn K (.ref f1) = true)
    (l1 : K.lookup f1 = some ⟨oc1, od1, .func (PySem.W.fnOf "may_lead_to" "Act.may_lead_to" (defArgs (inClass (top 17) 1)) (defBody (inClass (top 17) 1)) (defScope (inClass (top 17) 1)) .none kV1 dc1 pm1 an1 cd1 ct1), sl1⟩)
    (c1 : PySem.W.codeIn K cd1 "Act.may_lead_to" = true)
    (k1 : PySem.W.keepIn K (.ref f1) = true)
    (a2 : PySem.W.findIn K (.ref CAct) "leads_only_to" = some (some (.ref f2)))
    (i2 : PySem.W.isFn K (.ref f2) = true)
    (l2 : K.lookup f2 = some ⟨oc2, od2, .func (PySem.W.fnOf "leads_only_to" "Act.leads_only_to" (defArgs (inClass (top 17) 2)) (defBody (inClass (top 17) 2)) (defScope (inClass (top 17) 2)) .none kV2 dc2 pm2 an2 cd2 ct2), sl2⟩)
    (c2 : PySem.W.codeIn K cd2 "Act.leads_only_to" = true)
    (k2 : PySem.W.keepIn K (.ref f2) = true)
    (a3 : PySem.W.findIn K (.ref CValues) "__init__" = some (some (.ref f3)))
    (i3 : PySem.W.isFn K (.ref f3) = true)
    (l3 : K.lookup f3 = some ⟨oc3, od3, .func (PySem.W.fnOf "__init__" "Values.__init__" (defArgs (inClass (top 18) 0)) (defBody (inClass (top 18) 0)) (defScope (inClass (top 18) 0)) .none kV3 dc3 pm3 an3 cd3 ct3), sl3⟩)
    (c3 : PySem.W.codeIn K cd3 "Values.__init__" = true)
    (k3 : PySem.W.keepIn K (.ref f3) = true)
    (a4 : PySem.W.findIn K (.ref CSearch) "__init__" = some (some (.ref f4)))
    (i4 : PySem.W.isFn K (.ref f4) = true)
    (l4 : K.lookup f4 = some ⟨oc4, od4, .func (PySem.W.fnOf "__init__" "Search.__init__" (defArgs (inClass (top 19) 0)) (defBody (inClass (top 19) 0)) (defScope (inClass (top 19) 0)) .none kV4 dc4 pm4 an4 cd4 ct4), sl4⟩)
    (c4 : PySem.W.codeIn K cd4 "Search.__init__" = true)
    (k4 : PySem.W.keepIn K (.ref f4) = true)
    (a5 : PySem.W.findIn K (.ref CSearch) "best_values" = some (some (.ref f5)))
    (i5 : PySem.W.isFn K (.ref f5) = true)
    (l5 : K.lookup f5 = some ⟨oc5, od5, .func (PySem.W.fnOf "best_values" "Search.best_values" (defArgs (inClass (top 19) 1)) (defBody (inClass (top 19) 1)) (defScope (inClass (top 19) 1)) .none kV5 dc5 pm5 an5 cd5 ct5), sl5⟩)
    (c5 : PySem.W.codeIn K cd5 "Search.best_values" = true)
    (k5 : PySem.W.keepIn K (.ref f5) = true)
    (a6 : PySem.W.findIn K (.ref CSearch) "first_rule" = some (some (.ref f6)))
    (i6 : PySem.W.isFn K (.ref f6) = true)
    (l6 : K.lookup f6 = some ⟨oc6, od6, .func (PySem.W.fnOf "first_rule" "Search.first_rule" (defArgs (inClass (top 19) 2)) (defBody (inClass (top 19) 2)) (defScope (inClass (top 19) 2)) .none kV6 dc6 pm6 an6 cd6 ct6), sl6⟩)
    (c6 : PySem.W.codeIn K cd6 "Search.first_rule" = true)
    (k6 : PySem.W.keepIn K (.ref f6) = true)
    (a7 : PySem.W.findIn K (.ref CSearch) "acts_towards" = some (some (.ref f7)))
    (i7 : PySem.W.isFn K (.ref f7) = true)
    (l7 : K.lookup f7 = some ⟨oc7, od7, .func (PySem.W.fnOf "acts_towards" "Search.acts_towards" (defArgs (inClass (top 19) 3)) (defBody (inClass (top 19) 3)) (defScope (inClass (top 19) 3)) .none kV7 dc7 pm7 an7 cd7 ct7), sl7⟩)
    (c7 : PySem.W.codeIn K cd7 "Search.acts_towards" = true)
    (k7 : PySem.W.keepIn K (.ref f7) = true)
    (a8 : PySem.W.findIn K (.ref CSearch) "values_of" = some (some (.ref f8)))
    (i8 : PySem.W.isFn K (.ref f8) = true)
    (l8 : K.lookup f8 = some ⟨oc8, od8, .func (PySem.W.fnOf "values_of" "Search.values_of" (defArgs (inClass (top 19) 4)) (defBody (inClass (top 19) 4)) (defScope (inClass (top 19) 4)) .none kV8 dc8 pm8 an8 cd8 ct8), sl8⟩)
    (c8 : PySem.W.codeIn K cd8 "Search.values_of" = true)
    (k8 : PySem.W.keepIn K (.ref f8) = true)
    (a9 : PySem.W.findIn K (.ref CSearch) "equation" = some (some (.ref f9)))
    (i9 : PySem.W.isFn K (.ref f9) = true)
    (l9 : K.lookup f9 = some ⟨oc9, od9, .func (PySem.W.fnOf "equation" "Search.equation" (defArgs (inClass (top 19) 5)) (defBody (inClass (top 19) 5)) (defScope (inClass (top 19) 5)) .none kV9 dc9 pm9 an9 cd9 ct9), sl9⟩)
    (c9 : PySem.W.codeIn K cd9 "Search.equation" = true)
    (k9 : PySem.W.keepIn K (.ref f9) = true)
    (a10 : PySem.W.findIn K (.ref CSearch) "better_acts" = some (some (.ref f10)))
    (i10 : PySem.W.isFn K (.ref f10) = true)
    (l10 : K.lookup f10 = some ⟨oc10, od10, .func (PySem.W.fnOf "better_acts" "Search.better_acts" (defArgs (inClass (top 19) 6)) (defBody (inClass (top 19) 6)) (defScope (inClass (top 19) 6)) .none kV10 dc10 pm10 an10 cd10 ct10), sl10⟩)
    (c10 : PySem.W.codeIn K cd10 "Search.better_acts" = true)
    (k10 : PySem.W.keepIn K (.ref f10) = true)
    (a11 : PySem.W.findIn K (.ref CSearch) "best_acts" = some (some (.ref f11)))
    (i11 : PySem.W.isFn K (.ref f11) = true)
    (l11 : K.lookup f11 = some ⟨oc11, od11, .func (PySem.W.fnOf "best_acts" "Search.best_acts" (defArgs (inClass (top 19) 7)) (defBody (inClass (top 19) 7)) (defScope (inClass (top 19) 7)) .none kV11 dc11 pm11 an11 cd11 ct11), sl11⟩)
    (c11 : PySem.W.codeIn K cd11 "Search.best_acts" = true)
    (k11 : PySem.W.keepIn K (.ref f11) = true)
    (a12 : PySem.W.findIn K (.ref CSearch) "worth" = some (some (.ref f12)))
    (i12 : PySem.W.isFn K (.ref f12) = true)
    (l12 : K.lookup f12 = some ⟨oc12, od12, .func (PySem.W.fnOf "worth" "Search.worth" (defArgs (inClass (top 19) 8)) (defBody (inClass (top 19) 8)) (defScope (inClass (top 19) 8)) .none kV12 dc12 pm12 an12 cd12 ct12), sl12⟩)
    (c12 : PySem.W.codeIn K cd12 "Search.worth" = true)
    (k12 : PySem.W.keepIn K (.ref f12) = true)
    (a13 : PySem.W.findIn K (.ref CHouse) "__init__" = some (some (.ref f13)))
    (i13 : PySem.W.isFn K (.ref f13) = true)
    (l13 : K.lookup f13 = some ⟨oc13, od13, .func (PySem.W.fnOf "__init__" "House.__init__" (defArgs (inClass (top 20) 0)) (defBody (inClass (top 20) 0)) (defScope (inClass (top 20) 0)) .none kV13 dc13 pm13 an13 cd13 ct13), sl13⟩)
    (c13 : PySem.W.codeIn K cd13 "House.__init__" = true)
    (k13 : PySem.W.keepIn K (.ref f13) = true)
    (a14 : PySem.W.findIn K (.ref CHouse) "begins" = some (some (.ref f14)))
    (i14 : PySem.W.isFn K (.ref f14) = true)
    (l14 : K.lookup f14 = some ⟨oc14, od14, .func (PySem.W.fnOf "begins" "House.begins" (defArgs (inClass (top 20) 1)) (defBody (inClass (top 20) 1)) (defScope (inClass (top 20) 1)) .none kV14 dc14 pm14 an14 cd14 ct14), sl14⟩)
    (c14 : PySem.W.codeIn K cd14 "House.begins" = true)
    (k14 : PySem.W.keepIn K (.ref f14) = true)
    (a15 : PySem.W.findIn K (.ref CHouse) "act" = some (some (.ref f15)))
    (i15 : PySem.W.isFn K (.ref f15) = true)
    (l15 : K.lookup f15 = some ⟨oc15, od15, .func (PySem.W.fnOf "act" "House.act" (defArgs (inClass (top 20) 2)) (defBody (inClass (top 20) 2)) (defScope (inClass (top 20) 2)) .none kV15 dc15 pm15 an15 cd15 ct15), sl15⟩)
    (c15 : PySem.W.codeIn K cd15 "House.act" = true)
    (k15 : PySem.W.keepIn K (.ref f15) = true)
    (a16 : PySem.W.findIn K (.ref CHouse) "chance" = some (some (.ref f16)))
    (i16 : PySem.W.isFn K (.ref f16) = true)
    (l16 : K.lookup f16 = some ⟨oc16, od16, .func (PySem.W.fnOf "chance" "House.chance" (defArgs (inClass (top 20) 3)) (defBody (inClass (top 20) 3)) (defScope (inClass (top 20) 3)) .none kV16 dc16 pm16 an16 cd16 ct16), sl16⟩)
    (c16 : PySem.W.codeIn K cd16 "House.chance" = true)
    (k16 : PySem.W.keepIn K (.ref f16) = true)
    (a17 : PySem.W.findIn K (.ref CHouse) "cost" = some (some (.ref f17)))
    (i17 : PySem.W.isFn K (.ref f17) = true)
    (l17 : K.lookup f17 = some ⟨oc17, od17, .func (PySem.W.fnOf "cost" "House.cost" (defArgs (inClass (top 20) 4)) (defBody (inClass (top 20) 4)) (defScope (inClass (top 20) 4)) .none kV17 dc17 pm17 an17 cd17 ct17), sl17⟩)
    (c17 : PySem.W.codeIn K cd17 "House.cost" = true)
    (k17 : PySem.W.keepIn K (.ref f17) = true)
    (a18 : PySem.W.findIn K (.ref CHouse) "likely" = some (some (.ref f18)))
    (i18 : PySem.W.isFn K (.ref f18) = true)
    (l18 : K.lookup f18 = some ⟨oc18, od18, .func (PySem.W.fnOf "likely" "House.likely" (defArgs (inClass (top 20) 5)) (defBody (inClass (top 20) 5)) (defScope (inClass (top 20) 5)) .none kV18 dc18 pm18 an18 cd18 ct18), sl18⟩)
    (c18 : PySem.W.codeIn K cd18 "House.likely" = true)
    (k18 : PySem.W.keepIn K (.ref f18) = true)
    (a19 : PySem.W.findIn K (.ref CHouse) "cheap" = some (some (.ref f19)))
    (i19 : PySem.W.isFn K (.ref f19) = true)
    (l19 : K.lookup f19 = some ⟨oc19, od19, .func (PySem.W.fnOf "cheap" "House.cheap" (defArgs (inClass (top 20) 6)) (defBody (inClass (top 20) 6)) (defScope (inClass (top 20) 6)) .none kV19 dc19 pm19 an19 cd19 ct19), sl19⟩)
    (c19 : PySem.W.codeIn K cd19 "House.cheap" = true)
    (k19 : PySem.W.keepIn K (.ref f19) = true)
    (a20 : PySem.W.findIn K (.ref CHouse) "judge" = some (some (.ref f20)))
    (i20 : PySem.W.isFn K (.ref f20) = true)
    (l20 : K.lookup f20 = some ⟨oc20, od20, .func (PySem.W.fnOf "judge" "House.judge" (defArgs (inClass (top 20) 7)) (defBody (inClass (top 20) 7)) (defScope (inClass (top 20) 7)) .none kV20 dc20 pm20 an20 cd20 ct20), sl20⟩)
    (c20 : PySem.W.codeIn K cd20 "House.judge" = true)
    (k20 : PySem.W.keepIn K (.ref f20) = true)
    (a21 : PySem.W.findIn K (.ref CHouse) "acts_of" = some (some (.ref f21)))
    (i21 : PySem.W.isFn K (.ref f21) = true)
    (l21 : K.lookup f21 = some ⟨oc21, od21, .func (PySem.W.fnOf "acts_of" "House.acts_of" (defArgs (inClass (top 20) 8)) (defBody (inClass (top 20) 8)) (defScope (inClass (top 20) 8)) .none kV21 dc21 pm21 an21 cd21 ct21), sl21⟩)
    (c21 : PySem.W.codeIn K cd21 "House.acts_of" = true)
    (k21 : PySem.W.keepIn K (.ref f21) = true)
    (a22 : PySem.W.findIn K (.ref CHouse) "best_chance" = some (some (.ref f22)))
    (i22 : PySem.W.isFn K (.ref f22) = true)
    (l22 : K.lookup f22 = some ⟨oc22, od22, .func (PySem.W.fnOf "best_chance" "House.best_chance" (defArgs (inClass (top 20) 9)) (defBody (inClass (top 20) 9)) (defScope (inClass (top 20) 9)) .none kV22 dc22 pm22 an22 cd22 ct22), sl22⟩)
    (c22 : PySem.W.codeIn K cd22 "House.best_chance" = true)
    (k22 : PySem.W.keepIn K (.ref f22) = true)
    (a23 : PySem.W.findIn K (.ref CHouse) "best_cost" = some (some (.ref f23)))
    (i23 : PySem.W.isFn K (.ref f23) = true)
    (l23 : K.lookup f23 = some ⟨oc23, od23, .func (PySem.W.fnOf "best_cost" "House.best_cost" (defArgs (inClass (top 20) 10)) (defBody (inClass (top 20) 10)) (defScope (inClass (top 20) 10)) .none kV23 dc23 pm23 an23 cd23 ct23), sl23⟩)
    (c23 : PySem.W.codeIn K cd23 "House.best_cost" = true)
    (k23 : PySem.W.keepIn K (.ref f23) = true)
    (a24 : PySem.W.findIn K (.ref CHouse) "chance_search" = some (some (.ref f24)))
    (i24 : PySem.W.isFn K (.ref f24) = true)
    (l24 : K.lookup f24 = some ⟨oc24, od24, .func (PySem.W.fnOf "chance_search" "House.chance_search" (defArgs (inClass (top 20) 11)) (defBody (inClass (top 20) 11)) (defScope (inClass (top 20) 11)) .none kV24 dc24 pm24 an24 cd24 ct24), sl24⟩)
    (c24 : PySem.W.codeIn K cd24 "House.chance_search" = true)
    (k24 : PySem.W.keepIn K (.ref f24) = true)
    (a25 : PySem.W.findIn K (.ref CHouse) "cost_search" = some (some (.ref f25)))
    (i25 : PySem.W.isFn K (.ref f25) = true)
    (l25 : K.lookup f25 = some ⟨oc25, od25, .func (PySem.W.fnOf "cost_search" "House.cost_search" (defArgs (inClass (top 20) 12)) (defBody (inClass (top 20) 12)) (defScope (inClass (top 20) 12)) .none kV25 dc25 pm25 an25 cd25 ct25), sl25⟩)
    (c25 : PySem.W.codeIn K cd25 "House.cost_search" = true)
    (k25 : PySem.W.keepIn K (.ref f25) = true)
    (a26 : PySem.W.findIn K (.ref CTape) "__init__" = some (some (.ref f26)))
    (i26 : PySem.W.isFn K (.ref f26) = true)
    (l26 : K.lookup f26 = some ⟨oc26, od26, .func (PySem.W.fnOf "__init__" "Tape.__init__" (defArgs (inClass (top 21) 0)) (defBody (inClass (top 21) 0)) (defScope (inClass (top 21) 0)) .none kV26 dc26 pm26 an26 cd26 ct26), sl26⟩)
    (c26 : PySem.W.codeIn K cd26 "Tape.__init__" = true)
    (k26 : PySem.W.keepIn K (.ref f26) = true)
    (a27 : PySem.W.findIn K (.ref CTape) "has_more" = some (some (.ref f27)))
    (i27 : PySem.W.isFn K (.ref f27) = true)
    (l27 : K.lookup f27 = some ⟨oc27, od27, .func (PySem.W.fnOf "has_more" "Tape.has_more" (defArgs (inClass (top 21) 1)) (defBody (inClass (top 21) 1)) (defScope (inClass (top 21) 1)) .none kV27 dc27 pm27 an27 cd27 ct27), sl27⟩)
    (c27 : PySem.W.codeIn K cd27 "Tape.has_more" = true)
    (k27 : PySem.W.keepIn K (.ref f27) = true)
    (a28 : PySem.W.findIn K (.ref CTape) "take" = some (some (.ref f28)))
    (i28 : PySem.W.isFn K (.ref f28) = true)
    (l28 : K.lookup f28 = some ⟨oc28, od28, .func (PySem.W.fnOf "take" "Tape.take" (defArgs (inClass (top 21) 2)) (defBody (inClass (top 21) 2)) (defScope (inClass (top 21) 2)) .none kV28 dc28 pm28 an28 cd28 ct28), sl28⟩)
    (c28 : PySem.W.codeIn K cd28 "Tape.take" = true)
    (k28 : PySem.W.keepIn K (.ref f28) = true)
    (a29 : PySem.W.findIn K (.ref CTape) "take_row" = some (some (.ref f29)))
    (i29 : PySem.W.isFn K (.ref f29) = true)
    (l29 : K.lookup f29 = some ⟨oc29, od29, .func (PySem.W.fnOf "take_row" "Tape.take_row" (defArgs (inClass (top 21) 3)) (defBody (inClass (top 21) 3)) (defScope (inClass (top 21) 3)) .none kV29 dc29 pm29 an29 cd29 ct29), sl29⟩)
    (c29 : PySem.W.codeIn K cd29 "Tape.take_row" = true)
    (k29 : PySem.W.keepIn K (.ref f29) = true)
    (a30 : PySem.W.nsIn K mainGlobals "rise_below" = some (some (.ref f30)))
    (l30 : K.lookup f30 = some ⟨oc30, od30, .func (PySem.W.fnOf "rise_below" "rise_below" (defArgs (top 22)) (defBody (top 22)) (defScope (top 22)) .none kV30 dc30 pm30 an30 cd30 ct30), sl30⟩)
    (c30 : PySem.W.codeIn K cd30 "rise_below" = true)
    (k30 : PySem.W.keepIn K (.ref f30) = true)
    (a31 : PySem.W.nsIn K mainGlobals "leads_fit" = some (some (.ref f31)))
    (l31 : K.lookup f31 = some ⟨oc31, od31, .func (PySem.W.fnOf "leads_fit" "leads_fit" (defArgs (top 23)) (defBody (top 23)) (defScope (top 23)) .none kV31 dc31 pm31 an31 cd31 ct31), sl31⟩)
    (c31 : PySem.W.codeIn K cd31 "leads_fit" = true)
    (k31 : PySem.W.keepIn K (.ref f31) = true)
    (a32 : PySem.W.nsIn K mainGlobals "solved" = some (some (.ref f32)))
    (l32 : K.lookup f32 = some ⟨oc32, od32, .func (PySem.W.fnOf "solved" "solved" (defArgs (top 24)) (defBody (top 24)) (defScope (top 24)) .none kV32 dc32 pm32 an32 cd32 ct32), sl32⟩)
    (c32 : PySem.W.codeIn K cd32 "solved" = true)
    (k32 : PySem.W.keepIn K (.ref f32) = true)
    (a33 : PySem.W.nsIn K mainGlobals "without" = some (some (.ref f33)))
    (l33 : K.lookup f33 = some ⟨oc33, od33, .func (PySem.W.fnOf "without" "without" (defArgs (top 25)) (defBody (top 25)) (defScope (top 25)) .none kV33 dc33 pm33 an33 cd33 ct33), sl33⟩)
    (c33 : PySem.W.codeIn K cd33 "without" = true)
    (k33 : PySem.W.keepIn K (.ref f33) = true)
    (a34 : PySem.W.nsIn K mainGlobals "lowest_terms" = some (some (.ref f34)))
    (l34 : K.lookup f34 = some ⟨oc34, od34, .func (PySem.W.fnOf "lowest_terms" "lowest_terms" (defArgs (top 26)) (defBody (top 26)) (defScope (top 26)) .none kV34 dc34 pm34 an34 cd34 ct34), sl34⟩)
    (c34 : PySem.W.codeIn K cd34 "lowest_terms" = true)
    (k34 : PySem.W.keepIn K (.ref f34) = true)
    (a35 : PySem.W.nsIn K mainGlobals "told_rule" = some (some (.ref f35)))
    (l35 : K.lookup f35 = some ⟨oc35, od35, .func (PySem.W.fnOf "told_rule" "told_rule" (defArgs (top 27)) (defBody (top 27)) (defScope (top 27)) .none kV35 dc35 pm35 an35 cd35 ct35), sl35⟩)
    (c35 : PySem.W.codeIn K cd35 "told_rule" = true)
    (k35 : PySem.W.keepIn K (.ref f35) = true)
    (a36 : PySem.W.nsIn K mainGlobals "answer_next" = some (some (.ref f36)))
    (l36 : K.lookup f36 = some ⟨oc36, od36, .func (PySem.W.fnOf "answer_next" "answer_next" (defArgs (top 28)) (defBody (top 28)) (defScope (top 28)) .none kV36 dc36 pm36 an36 cd36 ct36), sl36⟩)
    (c36 : PySem.W.codeIn K cd36 "answer_next" = true)
    (k36 : PySem.W.keepIn K (.ref f36) = true)
    (a37 : PySem.W.nsIn K mainGlobals "answers" = some (some (.ref f37)))
    (l37 : K.lookup f37 = some ⟨oc37, od37, .func (PySem.W.fnOf "answers" "answers" (defArgs (top 29)) (defBody (top 29)) (defScope (top 29)) .none kV37 dc37 pm37 an37 cd37 ct37), sl37⟩)
    (c37 : PySem.W.codeIn K cd37 "answers" = true)
    (k37 : PySem.W.keepIn K (.ref f37) = true)
    (z_all : PySem.W.nsIn K mainGlobals "all" = some none)
    (z_any : PySem.W.nsIn K mainGlobals "any" = some none)
    (z_dict : PySem.W.nsIn K mainGlobals "dict" = some none)
    (z_enumerate : PySem.W.nsIn K mainGlobals "enumerate" = some none)
    (z_len : PySem.W.nsIn K mainGlobals "len" = some none)
    (z_list : PySem.W.nsIn K mainGlobals "list" = some none)
    (z_range : PySem.W.nsIn K mainGlobals "range" = some none)
    (z_sorted : PySem.W.nsIn K mainGlobals "sorted" = some none)
    (z_sum : PySem.W.nsIn K mainGlobals "sum" = some none)
    (z_zip : PySem.W.nsIn K mainGlobals "zip" = some none)
    (v_MOST_STATES : PySem.W.nsIn K mainGlobals "MOST_STATES" = some (some (.int (6) t_MOST_STATES)))
    (v_MOST_ACTS : PySem.W.nsIn K mainGlobals "MOST_ACTS" = some (some (.int (12) t_MOST_ACTS)))
    (v_MOST_COST : PySem.W.nsIn K mainGlobals "MOST_COST" = some (some (.int (100) t_MOST_COST)))
    (v_MOST_WEIGHT : PySem.W.nsIn K mainGlobals "MOST_WEIGHT" = some (some (.int (20) t_MOST_WEIGHT)))
    (v_WRONG : PySem.W.nsIn K mainGlobals "WRONG" = some (some (.int (-1) t_WRONG)))
    (v_NO_STATE : PySem.W.nsIn K mainGlobals "NO_STATE" = some (some (.int (-2) t_NO_STATE)))
    (v_NOT_SURE : PySem.W.nsIn K mainGlobals "NOT_SURE" = some (some (.int (-6) t_NOT_SURE)))
    (v_FULL : PySem.W.nsIn K mainGlobals "FULL" = some (some (.int (-7) t_FULL)))
    (v_BEGINS : PySem.W.nsIn K mainGlobals "BEGINS" = some (some (.int (0) t_BEGINS)))
    (v_ACT : PySem.W.nsIn K mainGlobals "ACT" = some (some (.int (1) t_ACT)))
    (v_CHANCE : PySem.W.nsIn K mainGlobals "CHANCE" = some (some (.int (2) t_CHANCE)))
    (v_COST : PySem.W.nsIn K mainGlobals "COST" = some (some (.int (3) t_COST)))
    (v_LIKELY : PySem.W.nsIn K mainGlobals "LIKELY" = some (some (.int (4) t_LIKELY)))
    (v_CHEAP : PySem.W.nsIn K mainGlobals "CHEAP" = some (some (.int (5) t_CHEAP)))
    (v_JUDGE : PySem.W.nsIn K mainGlobals "JUDGE" = some (some (.int (6) t_JUDGE))) :
    ∃ fd : FuncData, (∀ (s : Shared) (us : List Value), us.length = (["calls"] : List Str).length → BindsTo s fd ⟨us, []⟩ ((["calls"] : List Str).zip us)) ∧ ∀ base : Heap, K.In base → base.Ns mainGlobals mg → FnOk P w K mg base CX0 9 fa fd ["calls"] (spAnswers K) := by
  have e := hfa.symm.trans (PySem.W.mg_of X G a37)
  cases e
  have T : Txt K mg ⟨CAct, CValues, CSearch, CHouse, CTape⟩ := { clA := ⟨pg_Act, hd_Act, po_Act, sa_Act⟩, gA := PySem.W.mg_of X G g_Act, clV := ⟨pg_Values, hd_Values, po_Values, sa_Values⟩, gV := PySem.W.mg_of X G g_Values, clS := ⟨pg_Search, hd_Search, po_Search, sa_Search⟩, gS := PySem.W.mg_of X G g_Search, clH := ⟨pg_House, hd_House, po_House, sa_House⟩, gH := PySem.W.mg_of X G g_House, clT := ⟨pg_Tape, hd_Tape, po_Tape, sa_Tape⟩, gT := PySem.W.mg_of X G g_Tape, aNumber := n_Act_number, aState := n_Act_state, aPrice := n_Act_price, aWeights := n_Act_weights, aWhole := n_Act_whole, vTops := n_Values_tops, vBottom := n_Values_bottom, sMany := n_Search_many, sWanted := n_Search_wanted, sActs := n_Search_acts, sGoal := n_Search_goal, sRate := n_Search_rate, hMany := n_House_many, hWanted := n_House_wanted, hActs := n_House_acts, tCalls := n_Tape_calls, tPlace := n_Tape_place, len := PySem.W.mg_none_of X G z_len, range := PySem.W.mg_none_of X G z_range, enum := PySem.W.mg_none_of X G z_enumerate, zip := PySem.W.mg_none_of X G z_zip, sum := PySem.W.mg_none_of X G z_sum, any := PySem.W.mg_none_of X G z_any, all := PySem.W.mg_none_of X G z_all, sorted := PySem.W.mg_none_of X G z_sorted, list := PySem.W.mg_none_of X G z_list, dict := PySem.W.mg_none_of X G z_dict, cStates := ⟨_, PySem.W.mg_of X G v_MOST_STATES⟩, cActs := ⟨_, PySem.W.mg_of X G v_MOST_ACTS⟩, cCost := ⟨_, PySem.W.mg_of X G v_MOST_COST⟩, cWeight := ⟨_, PySem.W.mg_of X G v_MOST_WEIGHT⟩, cWrong := ⟨_, PySem.W.mg_of X G v_WRONG⟩, cNoState := ⟨_, PySem.W.mg_of X G v_NO_STATE⟩, cNotSure := ⟨_, PySem.W.mg_of X G v_NOT_SURE⟩, cFull := ⟨_, PySem.W.mg_of X G v_FULL⟩, cBegins := ⟨_, PySem.W.mg_of X G v_BEGINS⟩, cAct := ⟨_, PySem.W.mg_of X G v_ACT⟩, cChance := ⟨_, PySem.W.mg_of X G v_CHANCE⟩, cCostC := ⟨_, PySem.W.mg_of X G v_COST⟩, cLikely := ⟨_, PySem.W.mg_of X G v_LIKELY⟩, cCheap := ⟨_, PySem.W.mg_of X G v_CHEAP⟩, cJudge := ⟨_, PySem.W.mg_of X G v_JUDGE⟩ }
  have F0 := fun_mk (st := (inClass (top 17) 0)) l0 c0 k0
  have b0 := F0.binds (ps := ["self", "number", "state", "price", "weights"]) fun _ _ _ _ _ _ us hl => match us, hl with | [_, _, _, _, _], _ => rfl
  have F1 := fun_mk (st := (inClass (top 17) 1)) l1 c1 k1
  have b1 := F1.binds (ps := ["self", "states"]) fun _ _ _ _ _ _ us hl => match us, hl with | [_, _], _ => rfl
  have F2 := fun_mk (st := (inClass (top 17) 2)) l2 c2 k2
  have b2 := F2.binds (ps := ["self", "states"]) fun _ _ _ _ _ _ us hl => match us, hl with | [_, _], _ => rfl
  have F3 := fun_mk (st := (inClass (top 18) 0)) l3 c3 k3
  have b3 := F3.binds (ps := ["self", "tops", "bottom"]) fun _ _ _ _ _ _ us hl => match us, hl with | [_, _, _], _ => rfl
  have F4 := fun_mk (st := (inClass (top 19) 0)) l4 c4 k4
  have b4 := F4.binds (ps := ["self", "many", "wanted", "acts", "goal", "rate"]) fun _ _ _ _ _ _ us hl => match us, hl with | [_, _, _, _, _, _], _ => rfl
  have F5 := fun_mk (st := (inClass (top 19) 1)) l5 c5 k5
  have b5 := F5.binds (ps := ["self"]) fun _ _ _ _ _ _ us hl => match us, hl with | [_], _ => rfl
  have F6 := fun_mk (st := (inClass (top 19) 2)) l6 c6 k6
  have b6 := F6.binds (ps := ["self"]) fun _ _ _ _ _ _ us hl => match us, hl with | [_], _ => rfl
  have F7 := fun_mk (st := (inClass (top 19) 3)) l7 c7 k7
  have b7 := F7.binds (ps := ["self", "near"]) fun _ _ _ _ _ _ us hl => match us, hl with | [_, _], _ => rfl
  have F8 := fun_mk (st := (inClass (top 19) 4)) l8 c8 k8
  have b8 := F8.binds (ps := ["self", "rule"]) fun _ _ _ _ _ _ us hl => match us, hl with | [_, _], _ => rfl
  have F9 := fun_mk (st := (inClass (top 19) 5)) l9 c9 k9
  have b9 := F9.binds (ps := ["self", "act", "states"]) fun _ _ _ _ _ _ us hl => match us, hl with | [_, _, _], _ => rfl
  have F10 := fun_mk (st := (inClass (top 19) 6)) l10 c10 k10
  have b10 := F10.binds (ps := ["self", "rule", "values"]) fun _ _ _ _ _ _ us hl => match us, hl with | [_, _, _], _ => rfl
  have F11 := fun_mk (st := (inClass (top 19) 7)) l11 c11 k11
  have b11 := F11.binds (ps := ["self", "values"]) fun _ _ _ _ _ _ us hl => match us, hl with | [_, _], _ => rfl
  have F12 := fun_mk (st := (inClass (top 19) 8)) l12 c12 k12
  have b12 := F12.binds (ps := ["self", "act", "values"]) fun _ _ _ _ _ _ us hl => match us, hl with | [_, _, _], _ => rfl
  have F13 := fun_mk (st := (inClass (top 20) 0)) l13 c13 k13
  have b13 := F13.binds (ps := ["self"]) fun _ _ _ _ _ _ us hl => match us, hl with | [_], _ => rfl
  have F14 := fun_mk (st := (inClass (top 20) 1)) l14 c14 k14
  have b14 := F14.binds (ps := ["self", "many", "wanted"]) fun _ _ _ _ _ _ us hl => match us, hl with | [_, _, _], _ => rfl
  have F15 := fun_mk (st := (inClass (top 20) 2)) l15 c15 k15
  have b15 := F15.binds (ps := ["self", "state", "price", "leads"]) fun _ _ _ _ _ _ us hl => match us, hl with | [_, _, _, _], _ => rfl
  have F16 := fun_mk (st := (inClass (top 20) 3)) l16 c16 k16
  have b16 := F16.binds (ps := ["self", "state"]) fun _ _ _ _ _ _ us hl => match us, hl with | [_, _], _ => rfl
  have F17 := fun_mk (st := (inClass (top 20) 4)) l17 c17 k17
  have b17 := F17.binds (ps := ["self", "state"]) fun _ _ _ _ _ _ us hl => match us, hl with | [_, _], _ => rfl
  have F18 := fun_mk (st := (inClass (top 20) 5)) l18 c18 k18
  have b18 := F18.binds (ps := ["self"]) fun _ _ _ _ _ _ us hl => match us, hl with | [_], _ => rfl
  have F19 := fun_mk (st := (inClass (top 20) 6)) l19 c19 k19
  have b19 := F19.binds (ps := ["self"]) fun _ _ _ _ _ _ us hl => match us, hl with | [_], _ => rfl
  have F20 := fun_mk (st := (inClass (top 20) 7)) l20 c20 k20
  have b20 := F20.binds (ps := ["self", "state", "rule"]) fun _ _ _ _ _ _ us hl => match us, hl with | [_, _, _], _ => rfl
  have F21 := fun_mk (st := (inClass (top 20) 8)) l21 c21 k21
  have b21 := F21.binds (ps := ["self", "rule"]) fun _ _ _ _ _ _ us hl => match us, hl with | [_, _], _ => rfl
  have F22 := fun_mk (st := (inClass (top 20) 9)) l22 c22 k22
  have b22 := F22.binds (ps := ["self", "acts", "state"]) fun _ _ _ _ _ _ us hl => match us, hl with | [_, _, _], _ => rfl
  have F23 := fun_mk (st := (inClass (top 20) 10)) l23 c23 k23
  have b23 := F23.binds (ps := ["self", "acts", "state"]) fun _ _ _ _ _ _ us hl => match us, hl with | [_, _, _], _ => rfl
  have F24 := fun_mk (st := (inClass (top 20) 11)) l24 c24 k24
  have b24 := F24.binds (ps := ["self", "acts"]) fun _ _ _ _ _ _ us hl => match us, hl with | [_, _], _ => rfl
  have F25 := fun_mk (st := (inClass (top 20) 12)) l25 c25 k25
  have b25 := F25.binds (ps := ["self", "acts"]) fun _ _ _ _ _ _ us hl => match us, hl with | [_, _], _ => rfl
  have F26 := fun_mk (st := (inClass (top 21) 0)) l26 c26 k26
  have b26 := F26.binds (ps := ["self", "calls"]) fun _ _ _ _ _ _ us hl => match us, hl with | [_, _], _ => rfl
  have F27 := fun_mk (st := (inClass (top 21) 1)) l27 c27 k27
  have b27 := F27.binds (ps := ["self"]) fun _ _ _ _ _ _ us hl => match us, hl with | [_], _ => rfl
  have F28 := fun_mk (st := (inClass (top 21) 2)) l28 c28 k28
  have b28 := F28.binds (ps := ["self"]) fun _ _ _ _ _ _ us hl => match us, hl with | [_], _ => rfl
  have F29 := fun_mk (st := (inClass (top 21) 3)) l29 c29 k29
  have b29 := F29.binds (ps := ["self"]) fun _ _ _ _ _ _ us hl => match us, hl with | [_], _ => rfl
  have F30 := fun_mk (st := (top 22)) l30 c30 k30
  have b30 := F30.binds (ps := ["states", "many"]) fun _ _ _ _ _ _ us hl => match us, hl with | [_, _], _ => rfl
  have F31 := fun_mk (st := (top 23)) l31 c31 k31
  have b31 := F31.binds (ps := ["leads", "many"]) fun _ _ _ _ _ _ us hl => match us, hl with | [_, _], _ => rfl
  have F32 := fun_mk (st := (top 24)) l32 c32 k32
  have b32 := F32.binds (ps := ["rows"]) fun _ _ _ _ _ _ us hl => match us, hl with | [_], _ => rfl
  have F33 := fun_mk (st := (top 25)) l33 c33 k33
  have b33 := F33.binds (ps := ["row", "chosen", "place"]) fun _ _ _ _ _ _ us hl => match us, hl with | [_, _, _], _ => rfl
  have F34 := fun_mk (st := (top 26)) l34 c34 k34
  have b34 := F34.binds (ps := ["top", "bottom"]) fun _ _ _ _ _ _ us hl => match us, hl with | [_, _], _ => rfl
  have F35 := fun_mk (st := (top 27)) l35 c35 k35
  have b35 := F35.binds (ps := ["rule"]) fun _ _ _ _ _ _ us hl => match us, hl with | [_], _ => rfl
  have F36 := fun_mk (st := (top 28)) l36 c36 k36
  have b36 := F36.binds (ps := ["house", "tape"]) fun _ _ _ _ _ _ us hl => match us, hl with | [_, _], _ => rfl
  have F37 := fun_mk (st := (top 29)) l37 c37 k37
  refine ⟨PySem.W.fnOf "answers" "answers" (defArgs (top 29)) (defBody (top 29)) (defScope (top 29)) .none kV37 dc37 pm37 an37 cd37 ct37, fun s us hu => match us, hu with | [_], _ => .of_eq rfl, fun base _ _ => ?_⟩
  · skip
    have SE : Sea P w K mg base ⟨CAct, CValues, CSearch, CHouse, CTape⟩ := ⟨⟨f6, _, ⟨a6, i6, k6⟩, b6, ok_first F6 F7 b7 ⟨a7, i7, k7⟩ F1 b1 ⟨a1, i1, k1⟩ T⟩,
      ⟨f8, _, ⟨a8, i8, k8⟩, b8, ok_vals F8 F9 b9 ⟨a9, i9, k9⟩ F32 b32 (PySem.W.mg_of X G a32) k32 F33 b33 (PySem.W.mg_of X G a33) k33 F3 b3 ⟨mk_Values, a3, i3, kc_Values⟩ T⟩,
      ⟨f10, _, ⟨a10, i10, k10⟩, b10, ok_bet F10 F12 b12 ⟨a12, i12, k12⟩ T⟩⟩
    have SR : Srch P w K mg base ⟨CAct, CValues, CSearch, CHouse, CTape⟩ := ⟨⟨f4, _, ⟨mk_Search, a4, i4, kc_Search⟩, b4, ok_seaInit F4 T⟩,
      ⟨f5, _, ⟨a5, i5, k5⟩, b5, ok_best F5 SE T⟩,
      SE.first,
      ⟨f11, _, ⟨a11, i11, k11⟩, b11, ok_bestActs F11 F12 b12 ⟨a12, i12, k12⟩ T⟩⟩
    have HO : Hou P w K mg base ⟨CAct, CValues, CSearch, CHouse, CTape⟩ := ⟨⟨f24, _, ⟨a24, i24, k24⟩, b24, ok_cs F24 SR T⟩,
      ⟨f25, _, ⟨a25, i25, k25⟩, b25, ok_ks F25 SR F24 b24 ⟨a24, i24, k24⟩ F2 b2 ⟨a2, i2, k2⟩ T⟩⟩
    have BS : Bst P w K mg base ⟨CAct, CValues, CSearch, CHouse, CTape⟩ := ⟨⟨f22, _, ⟨a22, i22, k22⟩, b22, ok_bc F22 SR HO F34 b34 (PySem.W.mg_of X G a34) k34 T⟩,
      ⟨f23, _, ⟨a23, i23, k23⟩, b23, ok_bk F23 SR HO F34 b34 (PySem.W.mg_of X G a34) k34 T⟩⟩
    have CA : Cal P w K mg base ⟨CAct, CValues, CSearch, CHouse, CTape⟩ := ⟨⟨f14, _, ⟨a14, i14, k14⟩, b14, ok_begins F14 F30 b30 (PySem.W.mg_of X G a30) k30 T⟩,
      ⟨f15, _, ⟨a15, i15, k15⟩, b15, ok_act F15 F31 b31 (PySem.W.mg_of X G a31) k31 F30 b30 (PySem.W.mg_of X G a30) k30 F0 b0 ⟨mk_Act, a0, i0, kc_Act⟩ T⟩,
      ⟨f16, _, ⟨a16, i16, k16⟩, b16, ok_chance F16 BS T⟩,
      ⟨f17, _, ⟨a17, i17, k17⟩, b17, ok_cost F17 BS T⟩,
      ⟨f18, _, ⟨a18, i18, k18⟩, b18, ok_likely F18 SR HO F35 b35 (PySem.W.mg_of X G a35) k35 T⟩,
      ⟨f19, _, ⟨a19, i19, k19⟩, b19, ok_cheap F19 SR HO F35 b35 (PySem.W.mg_of X G a35) k35 T⟩,
      ⟨f20, _, ⟨a20, i20, k20⟩, b20, ok_judge F20 BS F21 b21 ⟨a21, i21, k21⟩ T⟩,
      ⟨f28, _, ⟨a28, i28, k28⟩, b28, ok_number F28 T⟩,
      ⟨f29, _, ⟨a29, i29, k29⟩, b29, ok_row F29 F28 b28 ⟨a28, i28, k28⟩ T⟩⟩
    exact ok_answers (by decide) F37 (ok_next F36 CA T) b36 (PySem.W.mg_of X G a36) k36 F13 b13 ⟨mk_House, a13, i13, kc_House⟩ F26 b26 ⟨mk_Tape, a26, i26, kc_Tape⟩ F27 b27 ⟨a27, i27, k27⟩ T
end ByH
open PySem PySem.W PyProof.Rows
set_option maxRecDepth 100000 in
set_option maxHeartbeats 0 in
theorem PySem.Challenge.cw_bychancedesk_s01_answers_holds : PySem.Challenge.rw_bychancedesk_s01_answers.Holds := by
  w_on; k_headS; (case hw => exact ⟨[.list [.int 2, .int 0]], by decide +kernel, by decide +kernel⟩)
  k_fillS
  refine L2.walk_specK (r := PySem.Challenge.rw_bychancedesk_s01_answers) (k := 9) (CX := L2.CX0) (ps := ["calls"]) (sp := ByH.spAnswers) (by decide +kernel) rfl rfl ⟨rfl, by decide, by decide⟩ (fun w h Y => PySem.W.kIn_of Y) ?F ?S (fun _ _ _ _ z => z)
  case F =>
    intro w mg fa h Y KX G hmg
    refine' ByH.all_mk KX G hmg ?g_Act ?pg_Act ?hd_Act ?po_Act ?sa_Act ?mk_Act ?kc_Act ?n_Act_number ?n_Act_state ?n_Act_price ?n_Act_weights ?n_Act_whole ?g_Values ?pg_Values ?hd_Values ?po_Values ?sa_Values ?mk_Values ?kc_Values ?n_Values_tops ?n_Values_bottom ?g_Search ?pg_Search ?hd_Search ?po_Search ?sa_Search ?mk_Search ?kc_Search ?n_Search_many ?n_Search_wanted ?n_Search_acts ?n_Search_goal ?n_Search_rate ?g_House ?pg_House ?hd_House ?po_House ?sa_House ?mk_House ?kc_House ?n_House_many ?n_House_wanted ?n_House_acts ?g_Tape ?pg_Tape ?hd_Tape ?po_Tape ?sa_Tape ?mk_Tape ?kc_Tape ?n_Tape_calls ?n_Tape_place ?a0 ?i0 ?l0 ?c0 ?k0 ?a1 ?i1 ?l1 ?c1 ?k1 ?a2 ?i2 ?l2 ?c2 ?k2 ?a3 ?i3 ?l3 ?c3 ?k3 ?a4 ?i4 ?l4 ?c4 ?k4 ?a5 ?i5 ?l5 ?c5 ?k5 ?a6 ?i6 ?l6 ?c6 ?k6 ?a7 ?i7 ?l7 ?c7 ?k7 ?a8 ?i8 ?l8 ?c8 ?k8 ?a9 ?i9 ?l9 ?c9 ?k9 ?a10 ?i10 ?l10 ?c10 ?k10 ?a11 ?i11 ?l11 ?c11 ?k11 ?a12 ?i12 ?l12 ?c12 ?k12 ?a13 ?i13 ?l13 ?c13 ?k13 ?a14 ?i14 ?l14 ?c14 ?k14 ?a15 ?i15 ?l15 ?c15 ?k15 ?a16 ?i16 ?l16 ?c16 ?k16 ?a17 ?i17 ?l17 ?c17 ?k17 ?a18 ?i18 ?l18 ?c18 ?k18 ?a19 ?i19 ?l19 ?c19 ?k19 ?a20 ?i20 ?l20 ?c20 ?k20 ?a21 ?i21 ?l21 ?c21 ?k21 ?a22 ?i22 ?l22 ?c22 ?k22 ?a23 ?i23 ?l23 ?c23 ?k23 ?a24 ?i24 ?l24 ?c24 ?k24 ?a25 ?i25 ?l25 ?c25 ?k25 ?a26 ?i26 ?l26 ?c26 ?k26 ?a27 ?i27 ?l27 ?c27 ?k27 ?a28 ?i28 ?l28 ?c28 ?k28 ?a29 ?i29 ?l29 ?c29 ?k29 ?a30 ?l30 ?c30 ?k30 ?a31 ?l31 ?c31 ?k31 ?a32 ?l32 ?c32 ?k32 ?a33 ?l33 ?c33 ?k33 ?a34 ?l34 ?c34 ?k34 ?a35 ?l35 ?c35 ?k35 ?a36 ?l36 ?c36 ?k36 ?a37 ?l37 ?c37 ?k37 ?z_all ?z_any ?z_dict ?z_enumerate ?z_len ?z_list ?z_range ?z_sorted ?z_sum ?z_zip ?v_MOST_STATES ?v_MOST_ACTS ?v_MOST_COST ?v_MOST_WEIGHT ?v_WRONG ?v_NO_STATE ?v_NOT_SURE ?v_FULL ?v_BEGINS ?v_ACT ?v_CHANCE ?v_COST ?v_LIKELY ?v_CHEAP ?v_JUDGE
    (case g_Act => k_is)
    (case pg_Act => k_is)
    (case hd_Act => k_is)
    (case po_Act => k_is)
    (case sa_Act => k_is)
    (case mk_Act => k_is)
    (case kc_Act => k_is)
    (case n_Act_number => k_is)
    (case n_Act_state => k_is)
    (case n_Act_price => k_is)
    (case n_Act_weights => k_is)
    (case n_Act_whole => k_is)
    (case g_Values => k_is)
    (case pg_Values => k_is)
    (case hd_Values => k_is)
    (case po_Values => k_is)
    (case sa_Values => k_is)
    (case mk_Values => k_is)
    (case kc_Values => k_is)
    (case n_Values_tops => k_is)
    (case n_Values_bottom => k_is)
    (case g_Search => k_is)
    (case pg_Search => k_is)
    (case hd_Search => k_is)
    (case po_Search => k_is)
    (case sa_Search => k_is)
    (case mk_Search => k_is)
    (case kc_Search => k_is)
    (case n_Search_many => k_is)
    (case n_Search_wanted => k_is)
    (case n_Search_acts => k_is)
    (case n_Search_goal => k_is)
    (case n_Search_rate => k_is)
    (case g_House => k_is)
    (case pg_House => k_is)
    (case hd_House => k_is)
    (case po_House => k_is)
    (case sa_House => k_is)
    (case mk_House => k_is)
    (case kc_House => k_is)
    (case n_House_many => k_is)
    (case n_House_wanted => k_is)
    (case n_House_acts => k_is)
    (case g_Tape => k_is)
    (case pg_Tape => k_is)
    (case hd_Tape => k_is)
    (case po_Tape => k_is)
    (case sa_Tape => k_is)
    (case mk_Tape => k_is)
    (case kc_Tape => k_is)
    (case n_Tape_calls => k_is)
    (case n_Tape_place => k_is)
    (case a0 => k_is)
    (case i0 => k_is)
    (case l0 => k_is)
    (case c0 => k_is)
    (case k0 => k_is)
    (case a1 => k_is)
    (case i1 => k_is)
    (case l1 => k_is)
    (case c1 => k_is)
    (case k1 => k_is)
    (case a2 => k_is)
    (case i2 => k_is)
    (case l2 => k_is)
    (case c2 => k_is)
    (case k2 => k_is)
    (case a3 => k_is)
    (case i3 => k_is)
    (case l3 => k_is)
    (case c3 => k_is)
    (case k3 => k_is)
    (case a4 => k_is)
    (case i4 => k_is)
    (case l4 => k_is)
    (case c4 => k_is)
    (case k4 => k_is)
    (case a5 => k_is)
    (case i5 => k_is)
    (case l5 => k_is)
    (case c5 => k_is)
    (case k5 => k_is)
    (case a6 => k_is)
    (case i6 => k_is)
    (case l6 => k_is)
    (case c6 => k_is)
    (case k6 => k_is)
    (case a7 => k_is)
    (case i7 => k_is)
    (case l7 => k_is)
    (case c7 => k_is)
    (case k7 => k_is)
    (case a8 => k_is)
    (case i8 => k_is)
    (case l8 => k_is)
    (case c8 => k_is)
    (case k8 => k_is)
    (case a9 => k_is)
    (case i9 => k_is)
    (case l9 => k_is)
    (case c9 => k_is)
    (case k9 => k_is)
    (case a10 => k_is)
    (case i10 => k_is)
    (case l10 => k_is)
    (case c10 => k_is)
    (case k10 => k_is)
    (case a11 => k_is)
    (case i11 => k_is)
    (case l11 => k_is)
    (case c11 => k_is)
    (case k11 => k_is)
    (case a12 => k_is)
    (case i12 => k_is)
    (case l12 => k_is)
    (case c12 => k_is)
    (case k12 => k_is)
    (case a13 => k_is)
    (case i13 => k_is)
    (case l13 => k_is)
    (case c13 => k_is)
    (case k13 => k_is)
    (case a14 => k_is)
    (case i14 => k_is)
    (case l14 => k_is)
    (case c14 => k_is)
    (case k14 => k_is)
    (case a15 => k_is)
    (case i15 => k_is)
    (case l15 => k_is)
    (case c15 => k_is)
    (case k15 => k_is)
    (case a16 => k_is)
    (case i16 => k_is)
    (case l16 => k_is)
    (case c16 => k_is)
    (case k16 => k_is)
    (case a17 => k_is)
    (case i17 => k_is)
    (case l17 => k_is)
    (case c17 => k_is)
    (case k17 => k_is)
    (case a18 => k_is)
    (case i18 => k_is)
    (case l18 => k_is)
    (case c18 => k_is)
    (case k18 => k_is)
    (case a19 => k_is)
    (case i19 => k_is)
    (case l19 => k_is)
    (case c19 => k_is)
    (case k19 => k_is)
    (case a20 => k_is)
    (case i20 => k_is)
    (case l20 => k_is)
    (case c20 => k_is)
    (case k20 => k_is)
    (case a21 => k_is)
    (case i21 => k_is)
    (case l21 => k_is)
    (case c21 => k_is)
    (case k21 => k_is)
    (case a22 => k_is)
    (case i22 => k_is)
    (case l22 => k_is)
    (case c22 => k_is)
    (case k22 => k_is)
    (case a23 => k_is)
    (case i23 => k_is)
    (case l23 => k_is)
    (case c23 => k_is)
    (case k23 => k_is)
    (case a24 => k_is)
    (case i24 => k_is)
    (case l24 => k_is)
    (case c24 => k_is)
    (case k24 => k_is)
    (case a25 => k_is)
    (case i25 => k_is)
    (case l25 => k_is)
    (case c25 => k_is)
    (case k25 => k_is)
    (case a26 => k_is)
    (case i26 => k_is)
    (case l26 => k_is)
    (case c26 => k_is)
    (case k26 => k_is)
    (case a27 => k_is)
    (case i27 => k_is)
    (case l27 => k_is)
    (case c27 => k_is)
    (case k27 => k_is)
    (case a28 => k_is)
    (case i28 => k_is)
    (case l28 => k_is)
    (case c28 => k_is)
    (case k28 => k_is)
    (case a29 => k_is)
    (case i29 => k_is)
    (case l29 => k_is)
    (case c29 => k_is)
    (case k29 => k_is)
    (case a30 => k_is)
    (case l30 => k_is)
    (case c30 => k_is)
    (case k30 => k_is)
    (case a31 => k_is)
    (case l31 => k_is)
    (case c31 => k_is)
    (case k31 => k_is)
    (case a32 => k_is)
    (case l32 => k_is)
    (case c32 => k_is)
    (case k32 => k_is)
    (case a33 => k_is)
    (case l33 => k_is)
    (case c33 => k_is)
    (case k33 => k_is)
    (case a34 => k_is)
    (case l34 => k_is)
    (case c34 => k_is)
    (case k34 => k_is)
    (case a35 => k_is)
    (case l35 => k_is)
    (case c35 => k_is)
    (case k35 => k_is)
    (case a36 => k_is)
    (case l36 => k_is)
    (case c36 => k_is)
    (case k36 => k_is)
    (case a37 => k_is)
    (case l37 => k_is)
    (case c37 => k_is)
    (case k37 => k_is)
    (case z_all => k_is)
    (case z_any => k_is)
    (case z_dict => k_is)
    (case z_enumerate => k_is)
    (case z_len => k_is)
    (case z_list => k_is)
    (case z_range => k_is)
    (case z_sorted => k_is)
    (case z_sum => k_is)
    (case z_zip => k_is)
    (case v_MOST_STATES => k_is)
    (case v_MOST_ACTS => k_is)
    (case v_MOST_COST => k_is)
    (case v_MOST_WEIGHT => k_is)
    (case v_WRONG => k_is)
    (case v_NO_STATE => k_is)
    (case v_NOT_SURE => k_is)
    (case v_FULL => k_is)
    (case v_BEGINS => k_is)
    (case v_ACT => k_is)
    (case v_CHANCE => k_is)
    (case v_COST => k_is)
    (case v_LIKELY => k_is)
    (case v_CHEAP => k_is)
    (case v_JUDGE => k_is)
  case S =>
    intro K H xs a hO hwi hask hx
    cases hx with
    | cons h1 h2 =>
      cases h2
      cases h1 with
      | lst hs ha =>
        have e := L2.ints_dw a.1 _ ha
        subst e
        exact ⟨_, a.1, rfl, hs, hask, fun H' p hp => .lst (L2.SqL.of hp) (L2.dw_ints _)⟩
#print axioms PySem.Challenge.cw_bychancedesk_s01_answers_holds

