import PyProof.Rows.All
import Wide.All
import OpenK.AllK
import Wide.FinOn
import Open.SpecLaws
import KE.OsGo
import HandS.ForSpec
import HandS.ForMost
import HandS.Wide
import HandS.Evl
import PyFlatLaws
import PySem.Challenge.RW_spreadmeans_s01_answers
set_option Elab.async false
set_option linter.all false
set_option maxRecDepth 100000
set_option maxHeartbeats 2000000
set_option autoImplicit false
set_option exponentiation.threshold 300
/-! # Fractions in lowest terms, and their values -/
namespace Sm
open Sr58 (Frac frac plus times whole total)
open Sr66 (minus over zero neg)

/-! ### 1. Lowest terms -/
def Nf (x : Frac) : Prop := 0 < x.d ∧ Nat.gcd x.n.natAbs x.d = 1
def val (x : Frac) : Rat := mkRat x.n x.d
theorem frac_eq {n : Int} {d : Nat} (h : 0 < d) : frac n d = ⟨n / (Nat.gcd n.natAbs d : Int), d / Nat.gcd n.natAbs d⟩ := by
  have hg : 0 < Nat.gcd n.natAbs d := Nat.gcd_pos_of_pos_right _ h
  have hq : 0 < d / Nat.gcd n.natAbs d := Nat.div_pos (Nat.gcd_le_right _ h) hg
  unfold frac
  simp only []
  rw [if_neg (by omega), if_neg (by omega)]
theorem nf_frac {n : Int} {d : Nat} (h : 0 < d) : Nf (frac n d) := by
  have hg : 0 < Nat.gcd n.natAbs d := Nat.gcd_pos_of_pos_right _ h
  rw [frac_eq h]
  refine ⟨Nat.div_pos (Nat.gcd_le_right _ h) hg, ?_⟩
  have e : (n / (Nat.gcd n.natAbs d : Int)).natAbs = n.natAbs / Nat.gcd n.natAbs d := by
    rw [Int.natAbs_ediv_of_dvd (Int.ofNat_dvd_left.mpr (Nat.gcd_dvd_left _ _))]
    rfl
  show Nat.gcd (n / (Nat.gcd n.natAbs d : Int)).natAbs (d / Nat.gcd n.natAbs d) = 1
  rw [e]
  exact Nat.coprime_div_gcd_div_gcd hg
theorem val_frac {n : Int} {d : Nat} (h : 0 < d) : val (frac n d) = mkRat n d := by
  have hg : 0 < Nat.gcd n.natAbs d := Nat.gcd_pos_of_pos_right _ h
  rw [frac_eq h]
  show mkRat (n / (Nat.gcd n.natAbs d : Int)) (d / Nat.gcd n.natAbs d) = mkRat n d
  have hq : 0 < d / Nat.gcd n.natAbs d := Nat.div_pos (Nat.gcd_le_right _ h) hg
  rw [Rat.mkRat_eq_iff (by omega) (by omega)]
  obtain ⟨a, ha⟩ : (Nat.gcd n.natAbs d : Int) ∣ n := Int.ofNat_dvd_left.mpr (Nat.gcd_dvd_left _ _)
  obtain ⟨b, hb⟩ := Nat.gcd_dvd_right n.natAbs d
  generalize hgg : Nat.gcd n.natAbs d = g at *
  have hgi : (g : Int) ≠ 0 := by omega
  have e1 : n / (g : Int) = a := by rw [ha, Int.mul_ediv_cancel_left _ hgi]
  have e2 : d / g = b := by rw [hb, Nat.mul_div_cancel_left _ hg]
  rw [e1, e2, ha, hb]
  push_cast
  grind
theorem val_inj {x y : Frac} (hx : Nf x) (hy : Nf y) (h : val x = val y) : x = y := by
  obtain ⟨xn, xd⟩ := x
  obtain ⟨yn, yd⟩ := y
  have h1 : xd ≠ 0 := Nat.ne_of_gt hx.1
  have h2 : yd ≠ 0 := Nat.ne_of_gt hy.1
  have e1 : (val ⟨xn, xd⟩) = Rat.mk' xn xd h1 hx.2 := (Rat.mk_eq_mkRat _ _ _ _).symm
  have e2 : (val ⟨yn, yd⟩) = Rat.mk' yn yd h2 hy.2 := (Rat.mk_eq_mkRat _ _ _ _).symm
  rw [e1, e2] at h
  injection h with h1 h2
  subst h1 h2
  rfl
/-- the value of an n by d with d above 0, by casts -/
theorem mk_div (n : Int) (d : Nat) : mkRat n d = (n : Rat) / ((d : Int) : Rat) := by
  rw [Rat.mkRat_eq_div]; rfl
theorem cast_ne {d : Nat} (h : 0 < d) : ((d : Int) : Rat) ≠ 0 := by
  intro e
  have : (d : Int) = 0 := by exact_mod_cast e
  omega
theorem nf_whole (n : Int) : Nf (whole n) := ⟨Nat.zero_lt_one, Nat.gcd_one_right _⟩
theorem nf_zero : Nf zero := nf_whole 0
theorem val_whole (n : Int) : val (whole n) = (n : Rat) := by
  show mkRat n 1 = _
  rw [mk_div]
  simp
  grind
theorem val_zero : val zero = 0 := by
  show mkRat 0 1 = 0
  simp
theorem nf_plus {a b : Frac} (ha : Nf a) (hb : Nf b) : Nf (plus a b) := nf_frac (Nat.mul_pos ha.1 hb.1)
theorem nf_times {a b : Frac} (ha : Nf a) (hb : Nf b) : Nf (times a b) := nf_frac (Nat.mul_pos ha.1 hb.1)
theorem nf_neg {a : Frac} (ha : Nf a) : Nf (neg a) := ⟨ha.1, by show Nat.gcd (-a.n).natAbs a.d = 1; rw [Int.natAbs_neg]; exact ha.2⟩
theorem nf_minus {a b : Frac} (ha : Nf a) (hb : Nf b) : Nf (minus a b) := nf_plus ha (nf_neg hb)
theorem nf_over {a b : Frac} (ha : Nf a) (hb : b.n ≠ 0) : Nf (over a b) := by
  have : 0 < b.n.natAbs := by omega
  unfold over
  split
  · exact nf_frac (Nat.mul_pos ha.1 this)
  · exact nf_frac (Nat.mul_pos ha.1 this)
theorem val_plus {a b : Frac} (ha : Nf a) (hb : Nf b) : val (plus a b) = val a + val b := by
  unfold plus
  rw [val_frac (Nat.mul_pos ha.1 hb.1)]
  unfold val
  rw [Rat.mkRat_add_mkRat _ _ (Nat.ne_of_gt ha.1) (Nat.ne_of_gt hb.1)]
theorem val_times {a b : Frac} (ha : Nf a) (hb : Nf b) : val (times a b) = val a * val b := by
  unfold times
  rw [val_frac (Nat.mul_pos ha.1 hb.1)]
  unfold val
  rw [Rat.mkRat_mul_mkRat]
theorem val_neg (a : Frac) : val (neg a) = - val a := by
  unfold val neg
  rw [Rat.neg_mkRat]
theorem val_minus {a b : Frac} (ha : Nf a) (hb : Nf b) : val (minus a b) = val a - val b := by
  unfold minus
  rw [val_plus ha (nf_neg hb), val_neg]
  grind
theorem val_eq_zero {a : Frac} (ha : Nf a) : val a = 0 ↔ a.n = 0 := Rat.mkRat_eq_zero (Nat.ne_of_gt ha.1)
theorem val_pos {a : Frac} (ha : Nf a) : 0 < val a ↔ 0 < a.n := by
  have h1 : 0 ≤ val a ↔ 0 ≤ a.n := by
    show 0 ≤ mkRat a.n a.d ↔ _
    rw [← Rat.divInt_ofNat]
    exact Rat.divInt_nonneg_iff_of_pos_right (by have := ha.1; omega)
  have h2 := val_eq_zero ha
  constructor
  · intro h
    have := h1.mp (Rat.le_of_lt h)
    have h3 : ¬ a.n = 0 := fun e => (Rat.ne_of_gt h) (h2.mpr e)
    omega
  · intro h
    refine Rat.lt_of_le_of_ne (h1.mpr (by omega)) fun e => ?_
    have := h2.mp e.symm
    omega
theorem val_lt_zero {a : Frac} (ha : Nf a) : val a < 0 ↔ a.n < 0 := by
  have h1 := val_pos ha
  have h2 := val_eq_zero ha
  constructor
  · intro h
    have h3 : ¬ 0 < a.n := fun e => by have := h1.mpr e; grind
    have h4 : ¬ a.n = 0 := fun e => by have := h2.mpr e; grind
    omega
  · intro h
    have h3 : ¬ 0 < val a := fun e => by have := h1.mp e; omega
    have h4 : ¬ val a = 0 := fun e => by have := h2.mp e; omega
    grind
theorem val_over {a b : Frac} (ha : Nf a) (hb : Nf b) (h0 : b.n ≠ 0) : val (over a b) = val a / val b := by
  have hp : 0 < b.n.natAbs := by omega
  have e : val (over a b) = mkRat (if b.n < 0 then -(a.n * (b.d : Int)) else a.n * (b.d : Int)) (a.d * b.n.natAbs) := by
    unfold over
    split
    · exact val_frac (Nat.mul_pos ha.1 hp)
    · exact val_frac (Nat.mul_pos ha.1 hp)
  have hv : val b ≠ 0 := fun z => h0 ((val_eq_zero hb).mp z)
  have ha1 := cast_ne ha.1
  have hb1 := cast_ne hb.1
  rw [e]
  unfold val at hv ⊢
  rw [mk_div, mk_div, mk_div] at *
  have hn : (b.n : Rat) ≠ 0 := by
    intro z
    have : b.n = 0 := by exact_mod_cast z
    exact h0 this
  by_cases c : b.n < 0
  · have en : ((a.d * b.n.natAbs : Nat) : Int) = (a.d : Int) * (- b.n) := by
      push_cast
      rw [show (b.n.natAbs : Int) = - b.n by omega]
    rw [if_pos c, en]
    push_cast
    grind
  · have en : ((a.d * b.n.natAbs : Nat) : Int) = (a.d : Int) * b.n := by
      push_cast
      rw [show (b.n.natAbs : Int) = b.n by omega]
    rw [if_neg c, en]
    push_cast
    grind

/-! ### 2. Sums -/
def S : Nat → (Nat → Rat) → Rat
  | 0, _ => 0
  | n + 1, f => S n f + f n
theorem S_congr : ∀ {n : Nat} {f g : Nat → Rat}, (∀ i, i < n → f i = g i) → S n f = S n g
  | 0, _, _, _ => rfl
  | n + 1, f, g, h => by
    show S n f + f n = S n g + g n
    rw [S_congr (fun i hi => h i (by omega)), h n (by omega)]
theorem S_zero : ∀ {n : Nat} {f : Nat → Rat}, (∀ i, i < n → f i = 0) → S n f = 0
  | 0, _, _ => rfl
  | n + 1, f, h => by
    show S n f + f n = 0
    rw [S_zero (fun i hi => h i (by omega)), h n (by omega)]
    grind
theorem S_add : ∀ (n : Nat) (f g : Nat → Rat), S n (fun i => f i + g i) = S n f + S n g
  | 0, _, _ => by show (0 : Rat) = 0 + 0; grind
  | n + 1, f, g => by
    show S n (fun i => f i + g i) + (f n + g n) = (S n f + f n) + (S n g + g n)
    rw [S_add n f g]
    grind
theorem S_mul : ∀ (n : Nat) (c : Rat) (f : Nat → Rat), S n (fun i => c * f i) = c * S n f
  | 0, c, _ => by show (0 : Rat) = c * 0; grind
  | n + 1, c, f => by
    show S n (fun i => c * f i) + c * f n = c * (S n f + f n)
    rw [S_mul n c f]
    grind
/-- what is 0 from n on -/
theorem S_more {n : Nat} {f : Nat → Rat} (h : ∀ i, n ≤ i → f i = 0) : ∀ k, S (n + k) f = S n f
  | 0 => rfl
  | k + 1 => by
    show S (n + k) f + f (n + k) = S n f
    rw [S_more h k, h (n + k) (by omega)]
    grind
theorem S_to {n m : Nat} {f : Nat → Rat} (h : ∀ i, n ≤ i → f i = 0) (hm : n ≤ m) : S m f = S n f := by
  have := S_more h (m - n)
  rwa [show n + (m - n) = m by omega] at this
theorem S_one {n a : Nat} {f : Nat → Rat} (ha : a < n) (h : ∀ i, i ≠ a → f i = 0) : S n f = f a := by
  have e1 : S n f = S (a + 1) f := S_to (fun i hi => h i (by omega)) (by omega)
  rw [e1]
  show S a f + f a = f a
  rw [S_zero fun i hi => h i (by omega)]
  grind
theorem S_swap : ∀ (n m : Nat) (f : Nat → Nat → Rat), S n (fun i => S m (fun j => f i j)) = S m (fun j => S n (fun i => f i j))
  | 0, m, f => by
    show (0 : Rat) = _
    exact (S_zero fun j _ => rfl).symm
  | n + 1, m, f => by
    show S n (fun i => S m (fun j => f i j)) + S m (fun j => f n j) = S m (fun j => S n (fun i => f i j) + f n j)
    rw [S_add, S_swap n m f]
/-- by diagonals -/
theorem S_diag : ∀ (N : Nat) (f : Nat → Nat → Rat), S N (fun l => S (l + 1) (fun j => f j (l - j))) = S N (fun j => S (N - j) (fun i => f j i))
  | 0, _ => rfl
  | N + 1, f => by
    show S N (fun l => S (l + 1) (fun j => f j (l - j))) + S (N + 1) (fun j => f j (N - j)) = _
    have e : S (N + 1) (fun j => S (N + 1 - j) (fun i => f j i)) = S (N + 1) (fun j => S (N - j) (fun i => f j i) + f j (N - j)) := by
      refine S_congr fun j hj => ?_
      rw [show N + 1 - j = (N - j) + 1 by omega]
      rfl
    rw [e, S_add, S_diag N f]
    have e2 : S (N + 1) (fun j => S (N - j) (fun i => f j i)) = S N (fun j => S (N - j) (fun i => f j i)) := by
      show S N (fun j => S (N - j) (fun i => f j i)) + S (N - N) (fun i => f N i) = _
      rw [Nat.sub_self]
      show _ + 0 = _
      grind
    rw [e2]
theorem S_square {a b : Nat} {f : Nat → Nat → Rat} (h1 : ∀ i j, a ≤ i → f i j = 0) (h2 : ∀ i j, b ≤ j → f i j = 0) {N : Nat} (hN : a + b ≤ N) :
    S N (fun l => S (l + 1) (fun j => f j (l - j))) = S a (fun i => S b (fun j => f i j)) := by
  rw [S_diag, S_to (n := a) (m := N) (fun i hi => S_zero fun j _ => h1 i j hi) (by omega)]
  refine S_congr fun i hi => ?_
  exact S_to (fun j hj => h2 i j hj) (by omega)

/-! ### 3. Polynomials and means by their values -/
abbrev NfL (l : List Frac) : Prop := ∀ x ∈ l, Nf x
theorem nf_getD {l : List Frac} (h : NfL l) (i : Nat) : Nf (l.getD i zero) := by
  rw [List.getD_eq_getElem?_getD]
  cases e : l[i]? with
  | none => exact nf_zero
  | some x => exact h x (List.mem_of_getElem? e)
def co (p : List Frac) (i : Nat) : Rat := val (p.getD i zero)
theorem co_ge {p : List Frac} {i : Nat} (h : p.length ≤ i) : co p i = 0 := by
  unfold co
  rw [List.getD_eq_getElem?_getD, List.getElem?_eq_none h]
  exact val_zero
theorem ext_co {p q : List Frac} (hp : NfL p) (hq : NfL q) (hl : p.length = q.length) (h : ∀ i, i < p.length → co p i = co q i) : p = q := by
  refine List.ext_getElem hl fun i h1 h2 => ?_
  have := h i h1
  unfold co at this
  rw [List.getD_eq_getElem?_getD, List.getD_eq_getElem?_getD, List.getElem?_eq_getElem h1, List.getElem?_eq_getElem h2] at this
  exact val_inj (hp _ (List.getElem_mem h1)) (hq _ (List.getElem_mem h2)) this
/-- a running sum -/
theorem fold_plus : ∀ (l : List Frac) (a : Frac), Nf a → NfL l → Nf (l.foldl plus a) ∧ val (l.foldl plus a) = val a + S l.length (co l)
  | [], a, ha, _ => ⟨ha, by show val a = val a + 0; grind⟩
  | x :: l, a, ha, hl => by
    have hx : Nf x := hl x List.mem_cons_self
    obtain ⟨h1, h2⟩ := fold_plus l (plus a x) (nf_plus ha hx) fun y hy => hl y (List.mem_cons_of_mem _ hy)
    refine ⟨h1, ?_⟩
    show val (l.foldl plus (plus a x)) = _
    rw [h2, val_plus ha hx]
    have e : S (x :: l).length (co (x :: l)) = val x + S l.length (co l) := by
      have q : ∀ n, S (n + 1) (co (x :: l)) = val x + S n (co l) := fun n => by
        induction n with
        | zero => show 0 + val x = val x + 0; grind
        | succ n ih =>
          show S (n + 1) (co (x :: l)) + co (x :: l) (n + 1) = val x + (S n (co l) + co l n)
          rw [ih]
          have : co (x :: l) (n + 1) = co l n := rfl
          rw [this]
          grind
      exact q l.length
    rw [e]
    grind
theorem nf_total {l : List Frac} (h : NfL l) : Nf (total l) := (fold_plus l (whole 0) (nf_whole 0) h).1
theorem val_total {l : List Frac} (h : NfL l) : val (total l) = S l.length (co l) := by
  have := (fold_plus l (whole 0) (nf_whole 0) h).2
  show val (l.foldl plus (whole 0)) = _
  rw [this, val_whole]
  simp
  grind
theorem co_map_range {n : Nat} {f : Nat → Frac} {i : Nat} (h : i < n) : co ((List.range n).map f) i = val (f i) := by
  unfold co
  rw [List.getD_eq_getElem?_getD, List.getElem?_map, List.getElem?_range h]
  rfl
theorem nf_map_range {n : Nat} {f : Nat → Frac} (h : ∀ i, i < n → Nf (f i)) : NfL ((List.range n).map f) := by
  intro x hx
  obtain ⟨i, hi, rfl⟩ := List.mem_map.mp hx
  exact h i (List.mem_range.mp hi)
theorem total_range {n : Nat} {f : Nat → Frac} (h : ∀ i, i < n → Nf (f i)) : Nf (total ((List.range n).map f)) ∧ val (total ((List.range n).map f)) = S n (fun i => val (f i)) := by
  refine ⟨nf_total (nf_map_range h), ?_⟩
  rw [val_total (nf_map_range h), List.length_map, List.length_range]
  exact S_congr fun i hi => co_map_range hi

/-! ### 4. The specification's polynomials -/
open Sr73 (Means meanAt mul add scale pow)
abbrev NfM (s : Means) : Prop := NfL s.m
def mo (s : Means) (i : Nat) : Rat := co s.m i
theorem nf_meanAt {s : Means} (h : NfM s) (i : Nat) : Nf (meanAt s i) := nf_getD h i
theorem val_meanAt (s : Means) (i : Nat) : val (meanAt s i) = mo s i := rfl
theorem mean_eq (s : Means) (p : List Frac) : Sr73.mean s p = total ((List.range p.length).map fun i => times (p.getD i zero) (meanAt s i)) := by
  unfold Sr73.mean
  congr 1
  refine List.ext_getElem (by simp) fun i h1 h2 => ?_
  simp only [List.length_map, List.length_zipIdx] at h1
  simp [List.getD_eq_getElem?_getD, List.getElem?_eq_getElem h1]
theorem nf_mean {s : Means} {p : List Frac} (hs : NfM s) (hp : NfL p) : Nf (Sr73.mean s p) := by
  rw [mean_eq]
  exact (total_range fun i _ => nf_times (nf_getD hp i) (nf_meanAt hs i)).1
theorem val_mean {s : Means} {p : List Frac} (hs : NfM s) (hp : NfL p) : val (Sr73.mean s p) = S p.length (fun i => co p i * mo s i) := by
  rw [mean_eq, (total_range fun i _ => nf_times (nf_getD hp i) (nf_meanAt hs i)).2]
  refine S_congr fun i hi => ?_
  rw [val_times (nf_getD hp i) (nf_meanAt hs i)]
  rfl
theorem len_mul (p q : List Frac) : (mul p q).length = if p = [] ∨ q = [] then 0 else p.length + q.length - 1 := by
  unfold mul
  split
  · rfl
  · simp
theorem nf_mul {p q : List Frac} (hp : NfL p) (hq : NfL q) : NfL (mul p q) := by
  unfold mul
  split
  · intro x hx
    cases hx
  · exact nf_map_range fun i _ => (total_range fun j _ => nf_times (nf_getD hp j) (nf_getD hq (i - j))).1
theorem co_mul {p q : List Frac} (hp : NfL p) (hq : NfL q) (i : Nat) : co (mul p q) i = S (i + 1) (fun j => co p j * co q (i - j)) := by
  have big : p.length + q.length ≤ i + 1 → S (i + 1) (fun j => co p j * co q (i - j)) = 0 := fun h => by
    refine S_zero fun j hj => ?_
    by_cases c : p.length ≤ j
    · rw [co_ge c]; grind
    · rw [co_ge (p := q) (i := i - j) (by omega)]; grind
  by_cases c : p = [] ∨ q = []
  · have e : mul p q = [] := by unfold mul; rw [if_pos c]
    rw [e, co_ge (Nat.zero_le _)]
    refine (S_zero fun j _ => ?_).symm
    rcases c with c | c
    · rw [c, co_ge (p := []) (Nat.zero_le _)]; grind
    · rw [c, co_ge (p := []) (Nat.zero_le _)]; grind
  · have hl := len_mul p q
    rw [if_neg c] at hl
    have hp0 : 0 < p.length := List.length_pos_iff.mpr fun z => c (.inl z)
    have hq0 : 0 < q.length := List.length_pos_iff.mpr fun z => c (.inr z)
    by_cases ci : i < p.length + q.length - 1
    · unfold mul
      rw [if_neg c, co_map_range ci, (total_range fun j _ => nf_times (nf_getD hp j) (nf_getD hq (i - j))).2]
      refine S_congr fun j _ => ?_
      rw [val_times (nf_getD hp j) (nf_getD hq (i - j))]
      rfl
    · rw [co_ge (by omega), big (by omega)]
/-- the mean of a product -/
def B (s : Means) (p q : List Frac) : Rat := S p.length (fun i => S q.length (fun j => co p i * co q j * mo s (i + j)))
theorem val_mean_mul {s : Means} {p q : List Frac} (hs : NfM s) (hp : NfL p) (hq : NfL q) : val (Sr73.mean s (mul p q)) = B s p q := by
  rw [val_mean hs (nf_mul hp hq)]
  have e : S (mul p q).length (fun i => co (mul p q) i * mo s i) = S (p.length + q.length) (fun i => co (mul p q) i * mo s i) := by
    refine (S_to (fun i hi => ?_) ?_).symm
    · rw [co_ge hi]; grind
    · rw [len_mul]; split <;> omega
  rw [e]
  have e2 : S (p.length + q.length) (fun i => co (mul p q) i * mo s i) = S (p.length + q.length) (fun l => S (l + 1) (fun j => (fun a b => co p a * co q b * mo s (a + b)) j (l - j))) := by
    refine S_congr fun i hi => ?_
    rw [co_mul hp hq, Rat.mul_comm, ← S_mul]
    refine S_congr fun j hj => ?_
    show mo s i * (co p j * co q (i - j)) = co p j * co q (i - j) * mo s (j + (i - j))
    rw [show j + (i - j) = i by omega]
    grind
  rw [e2, S_square (a := p.length) (b := q.length) (f := fun a b => co p a * co q b * mo s (a + b))]
  · rfl
  · intro i j hi
    show co p i * co q j * mo s (i + j) = 0
    rw [co_ge hi]; grind
  · intro i j hj
    show co p i * co q j * mo s (i + j) = 0
    rw [co_ge hj]; grind
  · exact Nat.le_refl _
theorem nf_pow (i : Nat) : NfL (pow i) := by
  intro x hx
  unfold pow at hx
  rcases List.mem_append.mp hx with h | h
  · rw [(List.mem_replicate.mp h).2]; exact nf_zero
  · rw [List.mem_singleton.mp h]; exact nf_whole 1
theorem len_pow (i : Nat) : (pow i).length = i + 1 := by simp [pow]
theorem co_pow (i j : Nat) : co (pow i) j = if j = i then 1 else 0 := by
  unfold co pow
  rw [List.getD_eq_getElem?_getD]
  by_cases h : j < i
  · rw [List.getElem?_append_left (by simpa using h), List.getElem?_replicate, if_pos h, if_neg (by omega)]
    exact val_zero
  · rw [List.getElem?_append_right (by simp; omega)]
    by_cases e : j = i
    · subst e
      simp
      rw [val_whole]
      rfl
    · rw [if_neg e]
      rw [List.getElem?_eq_none (by simp; omega)]
      exact val_zero
/-- the mean of a power times a polynomial -/
def L (s : Means) (q : List Frac) (j : Nat) : Rat := S q.length (fun i => co q i * mo s (i + j))
theorem B_pow (s : Means) (j : Nat) (q : List Frac) : B s (pow j) q = L s q j := by
  unfold B L
  rw [len_pow, S_one (a := j) (Nat.lt_succ_self j)]
  · refine S_congr fun i _ => ?_
    rw [co_pow, if_pos rfl, Nat.add_comm]
    grind
  · intro i hi
    refine S_zero fun l _ => ?_
    rw [co_pow, if_neg hi]
    grind
theorem B_comm (s : Means) (p q : List Frac) : B s p q = B s q p := by
  unfold B
  rw [S_swap]
  refine S_congr fun i _ => S_congr fun j _ => ?_
  rw [Nat.add_comm]
  grind
theorem B_L (s : Means) (p q : List Frac) : B s p q = S p.length (fun i => co p i * L s q i) := by
  unfold B L
  refine S_congr fun i _ => ?_
  rw [← S_mul]
  refine S_congr fun j _ => ?_
  rw [Nat.add_comm]
  grind
theorem len_add (p q : List Frac) : (add p q).length = max p.length q.length := by simp [add]
theorem nf_add {p q : List Frac} (hp : NfL p) (hq : NfL q) : NfL (add p q) := nf_map_range fun i _ => nf_plus (nf_getD hp i) (nf_getD hq i)
theorem co_add {p q : List Frac} (hp : NfL p) (hq : NfL q) (i : Nat) : co (add p q) i = co p i + co q i := by
  by_cases h : i < max p.length q.length
  · unfold add
    rw [co_map_range h, val_plus (nf_getD hp i) (nf_getD hq i)]
    rfl
  · rw [co_ge (by rw [len_add]; omega), co_ge (p := p) (by omega), co_ge (p := q) (by omega)]
    grind
theorem len_scale (c : Frac) (p : List Frac) : (scale c p).length = p.length := by simp [scale]
theorem nf_scale {c : Frac} {p : List Frac} (hc : Nf c) (hp : NfL p) : NfL (scale c p) := by
  intro x hx
  obtain ⟨y, hy, rfl⟩ := List.mem_map.mp hx
  exact nf_times hc (hp y hy)
theorem co_scale {c : Frac} {p : List Frac} (hc : Nf c) (hp : NfL p) (i : Nat) : co (scale c p) i = val c * co p i := by
  by_cases h : i < p.length
  · unfold co scale
    rw [List.getD_eq_getElem?_getD, List.getD_eq_getElem?_getD, List.getElem?_map, List.getElem?_eq_getElem h]
    exact val_times hc (hp _ (List.getElem_mem h))
  · rw [co_ge (by rw [len_scale]; omega), co_ge (by omega)]
    grind
end Sm

/-! # The program's own way to reckon, over fractions -/
namespace Sm
open Sr58 (Frac frac plus times whole)
open Sr66 (minus over zero neg)
/-- mean_with_power, behind so many turns -/
def mwpTo (f : List Frac) (p : Nat) (m : List Frac) : Nat → Frac
  | 0 => zero
  | i + 1 => plus (mwpTo f p m i) (times (f.getD i zero) (m.getD (i + p) zero))
def mwp (f : List Frac) (p : Nat) (m : List Frac) : Frac := mwpTo f p m f.length
/-- mean_of_product, mean_of_square -/
def mprTo (f o m : List Frac) : Nat → Frac
  | 0 => zero
  | i + 1 => plus (mprTo f o m i) (times (f.getD i zero) (mwp o i m))
def mpr (f o m : List Frac) : Frac := mprTo f o m f.length
def msqTo (f m : List Frac) (k : Nat) : Frac := mprTo f f m k
def msq (f m : List Frac) : Frac := msqTo f m f.length
/-- value_at, behind so many turns -/
def vaTo (p : List Frac) (x : Frac) (k : Nat) : Frac := (p.reverse.take k).foldl (fun r c => plus (times r x) c) zero
/-- times_power_plus -/
def tppTo (f : List Frac) (s : Frac) : Nat → List Frac
  | 0 => [zero] ++ f
  | i + 1 => (tppTo f s i).set i (plus ((tppTo f s i).getD i zero) (times (f.getD i zero) s))
def tpp (f : List Frac) (s : Frac) : List Frac := tppTo f s f.length
/-- less_often -/
def loTo (f o : List Frac) (c : Frac) : Nat → List Frac
  | 0 => f
  | i + 1 => (loTo f o c i).set i (minus ((loTo f o c i).getD i zero) (times (o.getD i zero) c))
def lo (f o : List Frac) (c : Frac) : List Frac := loTo f o c o.length
theorem len_tppTo (f : List Frac) (s : Frac) : ∀ i, (tppTo f s i).length = f.length + 1
  | 0 => by simp [tppTo]
  | i + 1 => by
    show ((tppTo f s i).set i _).length = _
    rw [List.length_set, len_tppTo f s i]
theorem len_loTo (f o : List Frac) (c : Frac) : ∀ i, (loTo f o c i).length = f.length
  | 0 => rfl
  | i + 1 => by
    show ((loTo f o c i).set i _).length = _
    rw [List.length_set, len_loTo f o c i]
/-- with_point: the share at each power; the means -/
def shTo (x w : Frac) : Nat → Frac
  | 0 => w
  | i + 1 => times (shTo x w i) x
def wp (m : List Frac) (x w : Frac) : List Frac := (List.range m.length).map fun i => plus (m.getD i zero) (shTo x w i)
/-- moved: the power of what's so much more; the means -/
def raised (s : Frac) : Nat → List Frac
  | 0 => [whole 1]
  | i + 1 => tpp (raised s i) s
def mvd (m : List Frac) (s : Frac) : List Frac := (List.range m.length).map fun i => mwp (raised s i) 0 m
def firstM (k : Nat) : List Frac := whole 1 :: List.replicate (2 * k) zero
end Sm

/-! # How great the numbers may be; what the program's own way gives -/
namespace Sm
open Sr58 (Frac frac plus times whole total)
open Sr66 (minus over zero neg)
def Sz (b : Nat) (x : Frac) : Prop := x.n.natAbs < 2 ^ b ∧ x.d < 2 ^ b
theorem Sz.mono {a b : Nat} {x : Frac} (h : Sz a x) (hb : a ≤ b) : Sz b x :=
  ⟨Nat.lt_of_lt_of_le h.1 (Nat.pow_le_pow_right (by decide) hb), Nat.lt_of_lt_of_le h.2 (Nat.pow_le_pow_right (by decide) hb)⟩
theorem sz_frac {b : Nat} {n : Int} {d : Nat} (h : 0 < d) (hn : n.natAbs < 2 ^ b) (hd : d < 2 ^ b) : Sz b (frac n d) := by
  rw [frac_eq h]
  refine ⟨Nat.lt_of_le_of_lt ?_ hn, Nat.lt_of_le_of_lt (Nat.div_le_self _ _) hd⟩
  show (n / (Nat.gcd n.natAbs d : Int)).natAbs ≤ n.natAbs
  rw [Int.natAbs_ediv_of_dvd (Int.ofNat_dvd_left.mpr (Nat.gcd_dvd_left _ _))]
  exact Nat.div_le_self _ _
theorem sz_times {a b : Nat} {x y : Frac} (hx : Nf x) (hy : Nf y) (sx : Sz a x) (sy : Sz b y) : Sz (a + b) (times x y) := by
  refine sz_frac (Nat.mul_pos hx.1 hy.1) ?_ ?_
  · rw [Int.natAbs_mul, Nat.pow_add]
    exact Nat.mul_lt_mul'' sx.1 sy.1
  · rw [Nat.pow_add]
    exact Nat.mul_lt_mul'' sx.2 sy.2
theorem sz_plus {a b : Nat} {x y : Frac} (hx : Nf x) (hy : Nf y) (sx : Sz a x) (sy : Sz b y) : Sz (a + b + 1) (plus x y) := by
  refine sz_frac (Nat.mul_pos hx.1 hy.1) ?_ ?_
  · have h1 : (x.n * (y.d : Int)).natAbs < 2 ^ (a + b) := by
      rw [Int.natAbs_mul, Nat.pow_add, Int.natAbs_natCast]
      exact Nat.mul_lt_mul'' sx.1 sy.2
    have h2 : (y.n * (x.d : Int)).natAbs < 2 ^ (a + b) := by
      rw [Int.natAbs_mul, Nat.pow_add, Int.natAbs_natCast, Nat.mul_comm]
      exact Nat.mul_lt_mul'' sx.2 sy.1
    rw [Nat.pow_succ]
    omega
  · have h1 : x.d * y.d < 2 ^ (a + b) := by
      rw [Nat.pow_add]
      exact Nat.mul_lt_mul'' sx.2 sy.2
    rw [Nat.pow_succ]
    omega
theorem sz_neg {a : Nat} {x : Frac} (sx : Sz a x) : Sz a (neg x) := ⟨by show (-x.n).natAbs < _; rw [Int.natAbs_neg]; exact sx.1, sx.2⟩
theorem sz_minus {a b : Nat} {x y : Frac} (hx : Nf x) (hy : Nf y) (sx : Sz a x) (sy : Sz b y) : Sz (a + b + 1) (minus x y) := sz_plus hx (nf_neg hy) sx (sz_neg sy)
theorem sz_over {a b : Nat} {x y : Frac} (hx : Nf x) (hy : y.n ≠ 0) (sx : Sz a x) (sy : Sz b y) : Sz (a + b) (over x y) := by
  have hp : 0 < x.d * y.n.natAbs := Nat.mul_pos hx.1 (by omega)
  have h1 : (x.n * (y.d : Int)).natAbs < 2 ^ (a + b) := by
    rw [Int.natAbs_mul, Nat.pow_add, Int.natAbs_natCast]
    exact Nat.mul_lt_mul'' sx.1 sy.2
  have h2 : x.d * y.n.natAbs < 2 ^ (a + b) := by
    rw [Nat.pow_add]
    exact Nat.mul_lt_mul'' sx.2 sy.1
  unfold over
  split
  · exact sz_frac hp (by rw [Int.natAbs_neg]; exact h1) h2
  · exact sz_frac hp h1 h2
theorem sz_zero : Sz 1 zero := ⟨by decide, by decide⟩
theorem sz_one : Sz 1 (whole 1) := ⟨by decide, by decide⟩
abbrev SzL (b : Nat) (l : List Frac) : Prop := ∀ i, Sz b (l.getD i zero)
theorem szl_of {b : Nat} {l : List Frac} (hb : 1 ≤ b) (h : ∀ x ∈ l, Sz b x) : SzL b l := by
  intro i
  rw [List.getD_eq_getElem?_getD]
  cases e : l[i]? with
  | none => exact sz_zero.mono hb
  | some x => exact h x (List.mem_of_getElem? e)
/-! ### mean_with_power -/
theorem mwpTo_ok {f m : List Frac} {a b : Nat} (hf : NfL f) (hm : NfL m) (sf : SzL a f) (sm : SzL b m) (p : Nat) : ∀ k, Nf (mwpTo f p m k) ∧ Sz (1 + k * (a + b + 1)) (mwpTo f p m k) ∧ val (mwpTo f p m k) = S k (fun i => co f i * co m (i + p))
  | 0 => ⟨nf_zero, sz_zero.mono (by omega), val_zero⟩
  | k + 1 => by
    obtain ⟨h1, h2, h3⟩ := mwpTo_ok hf hm sf sm p k
    have t1 := nf_times (nf_getD hf k) (nf_getD hm (k + p))
    have t2 := sz_times (nf_getD hf k) (nf_getD hm (k + p)) (sf k) (sm (k + p))
    refine ⟨nf_plus h1 t1, (sz_plus h1 t1 h2 t2).mono ?_, ?_⟩
    · rw [Nat.succ_mul]
      omega
    · show val (plus _ _) = S k _ + _
      rw [val_plus h1 t1, h3, val_times (nf_getD hf k) (nf_getD hm (k + p))]
      rfl
theorem nf_mwp {f m : List Frac} (hf : NfL f) (hm : NfL m) (p : Nat) : Nf (mwp f p m) := by
  have : ∀ k, Nf (mwpTo f p m k) := fun k => by
    induction k with
    | zero => exact nf_zero
    | succ k ih => exact nf_plus ih (nf_times (nf_getD hf k) (nf_getD hm (k + p)))
  exact this _
theorem val_mwpTo {f m : List Frac} (hf : NfL f) (hm : NfL m) (p : Nat) : ∀ k, val (mwpTo f p m k) = S k (fun i => co f i * co m (i + p)) ∧ Nf (mwpTo f p m k)
  | 0 => ⟨val_zero, nf_zero⟩
  | k + 1 => by
    obtain ⟨h1, h2⟩ := val_mwpTo hf hm p k
    have t1 := nf_times (nf_getD hf k) (nf_getD hm (k + p))
    refine ⟨?_, nf_plus h2 t1⟩
    show val (plus _ _) = S k _ + _
    rw [val_plus h2 t1, h1, val_times (nf_getD hf k) (nf_getD hm (k + p))]
    rfl
theorem val_mwp {f m : List Frac} (hf : NfL f) (hm : NfL m) (p : Nat) : val (mwp f p m) = S f.length (fun i => co f i * co m (i + p)) := (val_mwpTo hf hm p _).1
/-! ### mean_of_square -/
theorem val_mprTo {f o m : List Frac} (hf : NfL f) (ho : NfL o) (hm : NfL m) : ∀ k, val (mprTo f o m k) = S k (fun i => co f i * val (mwp o i m)) ∧ Nf (mprTo f o m k)
  | 0 => ⟨val_zero, nf_zero⟩
  | k + 1 => by
    obtain ⟨h1, h2⟩ := val_mprTo hf ho hm k
    have t1 := nf_times (nf_getD hf k) (nf_mwp ho hm k)
    refine ⟨?_, nf_plus h2 t1⟩
    show val (plus _ _) = S k _ + _
    rw [val_plus h2 t1, h1, val_times (nf_getD hf k) (nf_mwp ho hm k)]
    rfl
theorem val_msqTo {f m : List Frac} (hf : NfL f) (hm : NfL m) (k : Nat) : val (msqTo f m k) = S k (fun i => co f i * val (mwp f i m)) ∧ Nf (msqTo f m k) := val_mprTo hf hf hm k
theorem sz_mwp {f m : List Frac} {a b : Nat} (hf : NfL f) (hm : NfL m) (sf : SzL a f) (sm : SzL b m) (p : Nat) : Sz (1 + f.length * (a + b + 1)) (mwp f p m) := (mwpTo_ok hf hm sf sm p _).2.1
theorem sz_mprTo {f o m : List Frac} {a b c : Nat} (hf : NfL f) (ho : NfL o) (hm : NfL m) (sf : SzL a f) (so : SzL c o) (sm : SzL b m) : ∀ k, Sz (1 + k * (a + (1 + o.length * (c + b + 1)) + 1)) (mprTo f o m k)
  | 0 => sz_zero.mono (by omega)
  | k + 1 => by
    have ih := sz_mprTo hf ho hm sf so sm k
    have t1 := nf_times (nf_getD hf k) (nf_mwp ho hm k)
    have t2 := sz_times (nf_getD hf k) (nf_mwp ho hm k) (sf k) (sz_mwp ho hm so sm k)
    refine (sz_plus (val_mprTo hf ho hm k).2 t1 ih t2).mono ?_
    rw [Nat.succ_mul]
    omega
theorem sz_msqTo {f m : List Frac} {a b : Nat} (hf : NfL f) (hm : NfL m) (sf : SzL a f) (sm : SzL b m) (k : Nat) : Sz (1 + k * (a + (1 + f.length * (a + b + 1)) + 1)) (msqTo f m k) := sz_mprTo hf hf hm sf sf sm k
/-! ### value_at -/
theorem vaTo_ok {p : List Frac} {x : Frac} {a b : Nat} (hp : NfL p) (hx : Nf x) (sp : SzL a p) (sx : Sz b x) : ∀ (l : List Frac) (r : Frac) (n c : Nat), l.length ≤ n → (∀ y ∈ l, Nf y ∧ Sz a y) → Nf r → Sz c r → Nf (l.foldl (fun r c => plus (times r x) c) r) ∧ Sz (c + n * (a + b + 1)) (l.foldl (fun r c => plus (times r x) c) r)
  | [], r, n, c, _, _, nr, sr => ⟨nr, sr.mono (Nat.le_add_right _ _)⟩
  | y :: l, r, n, c, hn, hl, nr, sr => by
    have hy := hl y List.mem_cons_self
    have h1 := nf_times nr hx
    have h2 := sz_times nr hx sr sx
    obtain ⟨m, rfl⟩ : ∃ m, n = m + 1 := ⟨n - 1, by rw [List.length_cons] at hn; omega⟩
    obtain ⟨h3, h4⟩ := vaTo_ok hp hx sp sx l (plus (times r x) y) m (c + b + a + 1) (by rw [List.length_cons] at hn; omega) (fun z hz => hl z (List.mem_cons_of_mem _ hz)) (nf_plus h1 hy.1) (sz_plus h1 hy.1 h2 hy.2)
    refine ⟨h3, h4.mono ?_⟩
    rw [Nat.succ_mul]
    omega
theorem vaTo_fine {p : List Frac} {x : Frac} {a b : Nat} (hp : NfL p) (hx : Nf x) (sp : SzL a p) (sx : Sz b x) (k : Nat) : Nf (vaTo p x k) ∧ Sz (1 + p.length * (a + b + 1)) (vaTo p x k) := by
  refine vaTo_ok hp hx sp sx _ _ _ _ ?_ (fun y hy => ?_) nf_zero sz_zero
  · rw [List.length_take, List.length_reverse]
    omega
  · have hy : y ∈ p := List.mem_reverse.mp (List.mem_of_mem_take hy)
    refine ⟨hp y hy, ?_⟩
    obtain ⟨i, hi, rfl⟩ := List.mem_iff_getElem.mp hy
    have := sp i
    rwa [List.getD_eq_getElem?_getD, List.getElem?_eq_getElem hi] at this
/-! ### sets, one place after another -/
theorem getD_set {l : List Frac} {i j : Nat} {x : Frac} (h : j < l.length) : (l.set j x).getD i zero = if i = j then x else l.getD i zero := by
  rw [List.getD_eq_getElem?_getD, List.getD_eq_getElem?_getD, List.getElem?_set]
  by_cases e : j = i
  · subst e
    rw [if_pos rfl, if_pos rfl, if_pos h]
    rfl
  · rw [if_neg e, if_neg (fun z => e z.symm)]
theorem loTo_at {f o : List Frac} {c : Frac} : ∀ {k : Nat}, k ≤ f.length → ∀ i, (loTo f o c k).getD i zero = if i < k then minus (f.getD i zero) (times (o.getD i zero) c) else f.getD i zero
  | 0, _, i => by rw [if_neg (by omega)]; rfl
  | k + 1, h, i => by
    have ih := loTo_at (f := f) (o := o) (c := c) (k := k) (by omega)
    show ((loTo f o c k).set k _).getD i zero = _
    rw [getD_set (by rw [len_loTo]; omega), ih k, if_neg (Nat.lt_irrefl k), ih i]
    by_cases e : i = k
    · subst e
      rw [if_pos rfl, if_pos (by omega)]
    · rw [if_neg e]
      by_cases c2 : i < k
      · rw [if_pos c2, if_pos (by omega)]
      · rw [if_neg c2, if_neg (by omega)]
theorem tppTo_at {f : List Frac} {s : Frac} : ∀ {k : Nat}, k ≤ f.length → ∀ i, (tppTo f s k).getD i zero = if i < k then plus (([zero] ++ f).getD i zero) (times (f.getD i zero) s) else ([zero] ++ f).getD i zero
  | 0, _, i => by rw [if_neg (by omega)]; rfl
  | k + 1, h, i => by
    have ih := tppTo_at (f := f) (s := s) (k := k) (by omega)
    show ((tppTo f s k).set k _).getD i zero = _
    rw [getD_set (by rw [len_tppTo]; omega), ih k, if_neg (Nat.lt_irrefl k), ih i]
    by_cases e : i = k
    · subst e
      rw [if_pos rfl, if_pos (by omega)]
    · rw [if_neg e]
      by_cases c2 : i < k
      · rw [if_pos c2, if_pos (by omega)]
      · rw [if_neg c2, if_neg (by omega)]
theorem nfl_of_getD {l : List Frac} (h : ∀ i, i < l.length → Nf (l.getD i zero)) : NfL l := by
  intro x hx
  obtain ⟨i, hi, rfl⟩ := List.mem_iff_getElem.mp hx
  have := h i hi
  rw [List.getD_eq_getElem?_getD, List.getElem?_eq_getElem hi] at this
  exact this
theorem lo_at {f o : List Frac} {c : Frac} (h : o.length ≤ f.length) (i : Nat) : (lo f o c).getD i zero = if i < o.length then minus (f.getD i zero) (times (o.getD i zero) c) else f.getD i zero := loTo_at h i
theorem nf_lo {f o : List Frac} {c : Frac} (hf : NfL f) (ho : NfL o) (hc : Nf c) (h : o.length ≤ f.length) : NfL (lo f o c) := by
  refine nfl_of_getD fun i _ => ?_
  rw [lo_at h]
  split
  · exact nf_minus (nf_getD hf i) (nf_times (nf_getD ho i) hc)
  · exact nf_getD hf i
theorem co_lo {f o : List Frac} {c : Frac} (hf : NfL f) (ho : NfL o) (hc : Nf c) (h : o.length ≤ f.length) (i : Nat) : co (lo f o c) i = co f i - co o i * val c := by
  show val ((lo f o c).getD i zero) = _
  rw [lo_at h]
  split
  · rw [val_minus (nf_getD hf i) (nf_times (nf_getD ho i) hc), val_times (nf_getD ho i) hc]
    rfl
  · rename_i hi
    rw [co_ge (p := o) (by omega)]
    show co f i = _
    grind
theorem szl_lo {f o : List Frac} {c : Frac} {a b d : Nat} (hf : NfL f) (ho : NfL o) (hc : Nf c) (h : o.length ≤ f.length) (sf : SzL a f) (so : SzL b o) (sc : Sz d c) : SzL (a + (b + d) + 1) (lo f o c) := by
  intro i
  rw [lo_at h]
  split
  · exact sz_minus (nf_getD hf i) (nf_times (nf_getD ho i) hc) (sf i) (sz_times (nf_getD ho i) hc (so i) sc)
  · exact (sf i).mono (by omega)
theorem tpp_at {f : List Frac} {s : Frac} (i : Nat) : (tpp f s).getD i zero = if i < f.length then plus (([zero] ++ f).getD i zero) (times (f.getD i zero) s) else ([zero] ++ f).getD i zero := tppTo_at (Nat.le_refl _) i
theorem nf_cons0 {f : List Frac} (hf : NfL f) : NfL ([zero] ++ f) := by
  intro x hx
  rcases List.mem_append.mp hx with h | h
  · rw [List.mem_singleton.mp h]; exact nf_zero
  · exact hf x h
theorem nf_tpp {f : List Frac} {s : Frac} (hf : NfL f) (hs : Nf s) : NfL (tpp f s) := by
  refine nfl_of_getD fun i _ => ?_
  rw [tpp_at]
  split
  · exact nf_plus (nf_getD (nf_cons0 hf) i) (nf_times (nf_getD hf i) hs)
  · exact nf_getD (nf_cons0 hf) i
theorem co_tpp {f : List Frac} {s : Frac} (hf : NfL f) (hs : Nf s) (i : Nat) : co (tpp f s) i = co ([zero] ++ f) i + co f i * val s := by
  show val ((tpp f s).getD i zero) = _
  rw [tpp_at]
  split
  · rw [val_plus (nf_getD (nf_cons0 hf) i) (nf_times (nf_getD hf i) hs), val_times (nf_getD hf i) hs]
    rfl
  · rename_i hi
    rw [co_ge (p := f) (by omega)]
    show co ([zero] ++ f) i = _
    grind
theorem len_tpp (f : List Frac) (s : Frac) : (tpp f s).length = f.length + 1 := len_tppTo f s _
theorem len_lo (f o : List Frac) (c : Frac) : (lo f o c).length = f.length := len_loTo f o c _
theorem szl_cons0 {f : List Frac} {a : Nat} (ha : 1 ≤ a) (sf : SzL a f) : SzL a ([zero] ++ f) := by
  intro i
  cases i with
  | zero => exact sz_zero.mono ha
  | succ i => exact sf i
theorem szl_tpp {f : List Frac} {s : Frac} {a b : Nat} (ha : 1 ≤ a) (hf : NfL f) (hs : Nf s) (sf : SzL a f) (ss : Sz b s) : SzL (a + (a + b) + 1) (tpp f s) := by
  intro i
  rw [tpp_at]
  split
  · exact sz_plus (nf_getD (nf_cons0 hf) i) (nf_times (nf_getD hf i) hs) (szl_cons0 ha sf i) (sz_times (nf_getD hf i) hs (sf i) ss)
  · exact (szl_cons0 ha sf i).mono (by omega)
end Sm

/-! # The program's own way gives what the specification says -/
namespace Sm
open Sr58 (Frac frac plus times whole total)
open Sr66 (minus over zero neg)
open Sr73 (Means meanAt mul add scale pow)
theorem mwp_is {s : Means} {q : List Frac} (hs : NfM s) (hq : NfL q) (j : Nat) : mwp q j s.m = Sr73.mean s (mul (pow j) q) := by
  refine val_inj (nf_mwp hq hs j) (nf_mean hs (nf_mul (nf_pow j) hq)) ?_
  rw [val_mwp hq hs, val_mean_mul hs (nf_pow j) hq, B_pow]
  rfl
theorem mwp_is' {s : Means} {q : List Frac} (hs : NfM s) (hq : NfL q) (j : Nat) : mwp q j s.m = Sr73.mean s (mul q (pow j)) := by
  refine val_inj (nf_mwp hq hs j) (nf_mean hs (nf_mul hq (nf_pow j))) ?_
  rw [val_mwp hq hs, val_mean_mul hs hq (nf_pow j), B_comm, B_pow]
  rfl
theorem mean_is {s : Means} {q : List Frac} (hs : NfM s) (hq : NfL q) : mwp q 0 s.m = Sr73.mean s q := by
  refine val_inj (nf_mwp hq hs 0) (nf_mean hs hq) ?_
  rw [val_mwp hq hs, val_mean hs hq]
  rfl
theorem nf_msq {f m : List Frac} (hf : NfL f) (hm : NfL m) : Nf (msq f m) := (val_msqTo hf hm _).2
theorem msq_is {s : Means} {q : List Frac} (hs : NfM s) (hq : NfL q) : msq q s.m = Sr73.mean s (mul q q) := by
  refine val_inj (nf_msq hq hs) (nf_mean hs (nf_mul hq hq)) ?_
  rw [val_mean_mul hs hq hq, B_L]
  show val (msqTo q s.m q.length) = _
  rw [(val_msqTo hq hs _).1]
  refine S_congr fun i _ => ?_
  rw [val_mwp hq hs]
  rfl
theorem lo_is {p o : List Frac} {c : Frac} (hp : NfL p) (ho : NfL o) (hc : Nf c) (h : o.length ≤ p.length) : lo p o c = add p (scale (neg c) o) := by
  refine ext_co (nf_lo hp ho hc h) (nf_add hp (nf_scale (nf_neg hc) ho)) ?_ fun i hi => ?_
  · rw [len_lo, len_add, len_scale]
    omega
  · rw [co_lo hp ho hc h, co_add hp (nf_scale (nf_neg hc) ho), co_scale (nf_neg hc) ho, val_neg]
    grind
/-! ### put -/
theorem powAt_ok {x : Frac} (hx : Nf x) : ∀ i, Nf (Sr73.powAt x i) ∧ val (Sr73.powAt x i) = val x ^ i
  | 0 => ⟨nf_whole 1, by
    show val (whole 1) = _
    rw [val_whole]
    simp⟩
  | i + 1 => by
    obtain ⟨h1, h2⟩ := powAt_ok hx i
    refine ⟨nf_times h1 hx, ?_⟩
    show val (times _ _) = _
    rw [val_times h1 hx, h2, Rat.pow_succ]
theorem shTo_ok {x w : Frac} (hx : Nf x) (hw : Nf w) : ∀ i, Nf (shTo x w i) ∧ val (shTo x w i) = val w * val x ^ i
  | 0 => ⟨hw, by
    show val w = _
    simp⟩
  | i + 1 => by
    obtain ⟨h1, h2⟩ := shTo_ok hx hw i
    refine ⟨nf_times h1 hx, ?_⟩
    show val (times _ _) = _
    rw [val_times h1 hx, h2, Rat.pow_succ]
    grind
theorem shTo_is {x w : Frac} (hx : Nf x) (hw : Nf w) (i : Nat) : shTo x w i = times w (Sr73.powAt x i) := by
  obtain ⟨h1, h2⟩ := shTo_ok hx hw i
  obtain ⟨h3, h4⟩ := powAt_ok hx i
  refine val_inj h1 (nf_times hw h3) ?_
  rw [h2, val_times hw h3, h4]
theorem put_is {s : Means} {x w : Frac} (hx : Nf x) (hw : Nf w) (hl : s.m.length = 2 * s.k + 1) : (Sr73.put s x w).m = wp s.m x w := by
  show (List.range (2 * s.k + 1)).map _ = (List.range s.m.length).map _
  rw [hl]
  refine List.map_congr_left fun i _ => ?_
  rw [shTo_is hx hw]
  rfl
/-! ### move -/
theorem choose_zero (n : Nat) : Sr73.choose n 0 = 1 := by cases n <;> rfl
theorem choose_gt : ∀ (n k : Nat), n < k → Sr73.choose n k = 0
  | _, 0, h => absurd h (Nat.not_lt_zero _)
  | 0, _ + 1, _ => rfl
  | n + 1, k + 1, h => by
    show Sr73.choose n k + Sr73.choose n (k + 1) = 0
    rw [choose_gt n k (by omega), choose_gt n (k + 1) (by omega)]
theorem raised_ok {s : Frac} (hs : Nf s) : ∀ i, NfL (raised s i) ∧ (raised s i).length = i + 1 ∧ ∀ j, co (raised s i) j = if j ≤ i then (Sr73.choose i j : Rat) * val s ^ (i - j) else 0
  | 0 => by
    refine ⟨fun x hx => ?_, rfl, fun j => ?_⟩
    · rw [List.mem_singleton.mp hx]
      exact nf_whole 1
    · cases j with
      | zero =>
        rw [if_pos (Nat.le_refl _)]
        show val (whole 1) = _
        rw [val_whole, choose_zero]
        simp
      | succ j =>
        rw [if_neg (by omega)]
        exact co_ge (by show 1 ≤ j + 1; omega)
  | i + 1 => by
    obtain ⟨h1, h2, h3⟩ := raised_ok hs i
    refine ⟨nf_tpp h1 hs, (len_tpp _ _).trans (by rw [h2]), fun j => ?_⟩
    show co (tpp (raised s i) s) j = _
    rw [co_tpp h1 hs]
    cases j with
    | zero =>
      have e : co ([zero] ++ raised s i) 0 = 0 := val_zero
      rw [e, h3 0, if_pos (Nat.zero_le _), if_pos (Nat.zero_le _), choose_zero, choose_zero]
      show 0 + _ * val s ^ i * val s = _ * val s ^ (i + 1)
      rw [Rat.pow_succ]
      grind
    | succ j =>
      have e : co ([zero] ++ raised s i) (j + 1) = co (raised s i) j := rfl
      rw [e, h3 j, h3 (j + 1)]
      have ec : Sr73.choose (i + 1) (j + 1) = Sr73.choose i j + Sr73.choose i (j + 1) := rfl
      rw [ec]
      by_cases c1 : j + 1 ≤ i
      · rw [if_pos (show j ≤ i by omega), if_pos c1, if_pos (show j + 1 ≤ i + 1 by omega)]
        have e1 : i - j = (i - (j + 1)) + 1 := by omega
        have e2 : i + 1 - (j + 1) = (i - (j + 1)) + 1 := by omega
        rw [e1, e2, Rat.pow_succ]
        push_cast
        grind
      · by_cases c2 : j = i
        · subst c2
          rw [if_pos (Nat.le_refl _), if_neg (by omega), if_pos (Nat.le_refl _), choose_gt j (j + 1) (by omega), Nat.sub_self, Nat.sub_self]
          push_cast
          grind
        · rw [if_neg (by omega), if_neg (by omega), if_neg (by omega)]
          grind
theorem moved_is {s : Means} {x : Frac} (hs : NfM s) (hx : Nf x) (hl : s.m.length = 2 * s.k + 1) : (Sr73.moved s x).m = mvd s.m x := by
  show (List.range (2 * s.k + 1)).map _ = (List.range s.m.length).map _
  rw [hl]
  refine List.map_congr_left fun i _ => ?_
  obtain ⟨h1, h2, h3⟩ := raised_ok hx i
  have nt : ∀ j, Nf (times (times (whole (Sr73.choose i j : Nat)) (Sr73.powAt x (i - j))) (meanAt s j)) := fun j => nf_times (nf_times (nf_whole _) (powAt_ok hx _).1) (nf_meanAt hs j)
  refine val_inj (total_range fun j _ => nt j).1 (nf_mwp h1 hs 0) ?_
  rw [(total_range fun j _ => nt j).2, val_mwp h1 hs, h2]
  refine S_congr fun j hj => ?_
  rw [val_times (nf_times (nf_whole _) (powAt_ok hx _).1) (nf_meanAt hs j), val_times (nf_whole _) (powAt_ok hx _).1, val_whole, (powAt_ok hx _).2, h3, if_pos (by omega)]
  show _ = _ * co s.m j
  have : val (meanAt s j) = co s.m j := rfl
  rw [this]
  push_cast
  rfl
end Sm

/-! # How great the polynomials at right angles get: by common lower numbers -/
namespace Sm
open Sr58 (Frac frac plus times whole total)
open Sr66 (minus over zero neg)
/-- q is z by D, z within 2 to the power of b -/
def Dn (D b : Nat) (q : Rat) : Prop := ∃ z : Int, q = (z : Rat) / ((D : Int) : Rat) ∧ z.natAbs < 2 ^ b
theorem Dn.sz {x : Frac} {D b : Nat} (n : Nf x) (h0 : 0 < D) (hD : D < 2 ^ b) (h : Dn D b (val x)) : Sz b x := by
  obtain ⟨z, e, hz⟩ := h
  have e1 : x.n * (D : Int) = z * (x.d : Int) := by
    have e2 : mkRat x.n x.d = mkRat z D := by
      rw [mk_div z D]
      exact e
    exact (Rat.mkRat_eq_iff (Nat.ne_of_gt n.1) (Nat.ne_of_gt h0)).mp e2
  have hd : x.d ∣ D := by
    have : (x.d : Int) ∣ x.n * (D : Int) := ⟨z, by rw [e1, Int.mul_comm]⟩
    have h2 : x.d ∣ x.n.natAbs * D := by
      have := Int.natAbs_dvd_natAbs.mpr this
      rwa [Int.natAbs_mul, Int.natAbs_natCast, Int.natAbs_natCast] at this
    exact (Nat.Coprime.symm n.2).dvd_of_dvd_mul_left h2
  obtain ⟨g, hg⟩ := hd
  have hx : 0 < x.d := n.1
  have hg0 : 0 < g := Nat.pos_of_ne_zero fun z0 => by
    rw [z0, Nat.mul_zero] at hg
    omega
  refine ⟨?_, Nat.lt_of_le_of_lt (Nat.le_of_dvd h0 ⟨g, hg⟩) hD⟩
  have e3 : x.n * (g : Int) = z := by
    have e4 : (x.n * (g : Int)) * (x.d : Int) = z * (x.d : Int) := by
      rw [← e1, hg]
      push_cast
      grind
    exact Int.eq_of_mul_eq_mul_right (by omega) e4
  refine Nat.lt_of_le_of_lt ?_ hz
  rw [← e3, Int.natAbs_mul, Int.natAbs_natCast]
  exact Nat.le_mul_of_pos_right _ hg0
theorem Dn.mono {D b c : Nat} {q : Rat} (h : Dn D b q) (hb : b ≤ c) : Dn D c q := by
  obtain ⟨z, e, hz⟩ := h
  exact ⟨z, e, Nat.lt_of_lt_of_le hz (Nat.pow_le_pow_right (by decide) hb)⟩
theorem castN {D : Nat} (h : 0 < D) : ((D : Int) : Rat) ≠ 0 := cast_ne h
theorem Dn.mul {D E b c : Nat} {p q : Rat} (hD : 0 < D) (hE : 0 < E) (hp : Dn D b p) (hq : Dn E c q) : Dn (D * E) (b + c) (p * q) := by
  obtain ⟨y, e, hy⟩ := hp
  obtain ⟨z, f, hz⟩ := hq
  refine ⟨y * z, ?_, ?_⟩
  · rw [e, f]
    have h1 := castN hD
    have h2 := castN hE
    push_cast
    grind
  · rw [Int.natAbs_mul, Nat.pow_add]
    exact Nat.mul_lt_mul'' hy hz
/-- a sum of n terms, by one lower number -/
theorem Dn.sum {D b : Nat} {f : Nat → Rat} (hD : 0 < D) (n : Nat) (h : ∀ i, i < n → Dn D b (f i)) : ∃ z : Int, S n f = (z : Rat) / ((D : Int) : Rat) ∧ z.natAbs ≤ n * 2 ^ b := by
  induction n with
  | zero => exact ⟨0, by show (0 : Rat) = _; simp; grind, by simp⟩
  | succ n ih =>
    obtain ⟨z, e, hz⟩ := ih fun i hi => h i (by omega)
    obtain ⟨y, f', hy⟩ := h n (by omega)
    refine ⟨z + y, ?_, ?_⟩
    · show S n f + f n = _
      rw [e, f']
      have h1 := castN hD
      push_cast
      grind
    · rw [Nat.succ_mul]
      omega
theorem Dn.sum8 {D b n : Nat} {f : Nat → Rat} (hD : 0 < D) (hn : n < 8) (h : ∀ i, i < n → Dn D b (f i)) : Dn D (b + 3) (S n f) := by
  obtain ⟨z, e, hz⟩ := Dn.sum hD n h
  refine ⟨z, e, Nat.lt_of_le_of_lt hz ?_⟩
  rw [Nat.pow_add, Nat.mul_comm]
  exact Nat.mul_lt_mul_of_pos_left hn (Nat.pow_pos (by decide))
theorem castMul (a b : Nat) : (((a * b : Nat) : Int) : Rat) = ((a : Int) : Rat) * ((b : Int) : Rat) := by push_cast; rfl
theorem rat1 {A E L n : Rat} (hE : E ≠ 0) (hL : L ≠ 0) (hn : n ≠ 0) : A / (E * L) / (n / (E * (E * L))) = A * E / n := by grind
theorem rat3 {A D E : Rat} (hE : E ≠ 0) (hD : D ≠ 0) : A / E = A * D / (E * D) := by grind
theorem rat4 {A D E : Rat} (hE : E ≠ 0) (hD : D ≠ 0) : A / D = A * E / (E * D) := by grind
theorem abs_sub_lt {a b : Int} {X : Nat} (h1 : a.natAbs < X) (h2 : b.natAbs < X) : (a - b).natAbs < X * 2 := by omega
theorem rat2 {R Y A E D n : Rat} (hE : E ≠ 0) (hD : D ≠ 0) (hn : n ≠ 0) : R / D - Y / E * (A * E / n) = (R * n - Y * A * D) / (D * n) := by grind
/-- the bits: of what is left of a power behind t polynomials that are taken off -/
def bz : Nat → Nat
  | 0 => 1
  | t + 1 => 3 * bz t + 2007
structure PB (t : Nat) (p : List Frac) : Prop where
  nf : NfL p
  ex : ∃ D : Nat, 0 < D ∧ D < 2 ^ bz t ∧ ∀ i, Dn D (bz t) (co p i)
/-- means by one lower number -/
structure MB (m : List Frac) : Prop where
  nf : NfL m
  ex : ∃ D : Nat, 0 < D ∧ D < 2 ^ 2000 ∧ ∀ i, Dn D 2000 (co m i)
theorem PB.sz {t : Nat} {p : List Frac} (h : PB t p) : SzL (bz t) p := by
  obtain ⟨D, h0, h1, h2⟩ := h.ex
  exact fun i => Dn.sz (nf_getD h.nf i) h0 h1 (h2 i)
theorem pb_pow (j : Nat) : PB 0 (Sr73.pow j) := by
  refine ⟨nf_pow j, 1, by decide, by decide, fun i => ?_⟩
  rw [co_pow]
  split
  · exact ⟨1, by simp; grind, by decide⟩
  · exact ⟨0, by simp; grind, by decide⟩
theorem dn_mwp {t D E : Nat} {f m : List Frac} (hf : NfL f) (hm : NfL m) (hD : 0 < D) (hE : 0 < E) (h : ∀ i, Dn D (bz t) (co f i)) (g : ∀ i, Dn E 2000 (co m i)) (hl : f.length < 8) (p : Nat) : Dn (D * E) (bz t + 2003) (val (mwp f p m)) := by
  rw [val_mwp hf hm]
  have := Dn.sum8 (D := D * E) (b := bz t + 2000) (f := fun i => co f i * co m (i + p)) (Nat.mul_pos hD hE) hl fun i _ => Dn.mul hD hE (h i) (g (i + p))
  exact this
theorem dn_msq {t D E : Nat} {f m : List Frac} (hf : NfL f) (hm : NfL m) (hD : 0 < D) (hE : 0 < E) (h : ∀ i, Dn D (bz t) (co f i)) (g : ∀ i, Dn E 2000 (co m i)) (hl : f.length < 8) : Dn (D * (D * E)) (2 * bz t + 2006) (val (msq f m)) := by
  show Dn _ _ (val (msqTo f m f.length))
  rw [(val_msqTo hf hm _).1]
  refine (Dn.sum8 (D := D * (D * E)) (b := bz t + (bz t + 2003)) (f := fun i => co f i * val (mwp f i m)) (Nat.mul_pos hD (Nat.mul_pos hD hE)) hl fun i _ => Dn.mul hD (Nat.mul_pos hD hE) (h i) (dn_mwp hf hm hD hE h g hl i)).mono (by omega)
/-- one more is taken off -/
theorem pb_step {t : Nat} {r y m : List Frac} {p : Nat} (hr : PB t r) (hy : PB t y) (hm : MB m) (hl : y.length < 8) (hle : y.length ≤ r.length) (hpos : 0 < (msq y m).n) : PB (t + 1) (lo r y (over (mwp y p m) (msq y m))) := by
  obtain ⟨nr, D, d0, d1, dr⟩ := hr
  obtain ⟨ny, E, e0, e1, dy⟩ := hy
  obtain ⟨nm, L, l0, l1, dm⟩ := hm
  obtain ⟨A, ea, ha⟩ := dn_mwp ny nm e0 l0 dy dm hl p
  obtain ⟨N, en, hn⟩ := dn_msq ny nm e0 l0 dy dm hl
  have hmsq := nf_msq ny nm
  have hmwp := nf_mwp ny nm p
  have hne : (msq y m).n ≠ 0 := by omega
  have vpos : 0 < val (msq y m) := (val_pos hmsq).mpr hpos
  have cE := castN e0
  have cL := castN l0
  have cD := castN d0
  have hNpos : 0 < N := by
    by_cases c : 0 < N
    · exact c
    · exfalso
      have h1 : (N : Rat) ≤ 0 := by
        have : N ≤ 0 := by omega
        exact_mod_cast this
      have pe : (0 : Rat) < ((E * (E * L) : Nat) : Int) := by
        have : (0 : Int) < ((E * (E * L) : Nat) : Int) := by
          have := Nat.mul_pos e0 (Nat.mul_pos e0 l0)
          omega
        exact_mod_cast this
      rw [en] at vpos
      have h2 : (N : Rat) / (((E * (E * L) : Nat) : Int) : Rat) * (((E * (E * L) : Nat) : Int) : Rat) = (N : Rat) := Rat.div_mul_cancel (Rat.ne_of_gt pe)
      have h3 := Rat.mul_pos vpos pe
      rw [h2] at h3
      grind
  obtain ⟨n, rfl⟩ : ∃ n : Nat, N = (n : Int) := ⟨N.toNat, by omega⟩
  have n0 : 0 < n := by omega
  have cN := castN n0
  have nc : Nf (over (mwp y p m) (msq y m)) := nf_over hmwp hne
  have vc : val (over (mwp y p m) (msq y m)) = (A : Rat) * ((E : Int) : Rat) / ((n : Int) : Rat) := by
    rw [val_over hmwp hmsq hne, ea, en, castMul, castMul, castMul]
    exact rat1 cE cL cN
  refine ⟨nf_lo nr ny nc hle, D * n, Nat.mul_pos d0 n0, ?_, fun i => ?_⟩
  · rw [Int.natAbs_natCast] at hn
    refine Nat.lt_of_lt_of_le (Nat.mul_lt_mul'' d1 hn) ?_
    rw [← Nat.pow_add]
    exact Nat.pow_le_pow_right (by decide) (by show _ ≤ 3 * bz t + 2007; omega)
  · rw [co_lo nr ny nc hle, vc]
    obtain ⟨R, er, hR⟩ := dr i
    obtain ⟨Y, ey, hY⟩ := dy i
    refine ⟨R * (n : Int) - Y * A * (D : Int), ?_, ?_⟩
    · rw [er, ey, castMul, rat2 cE cD cN]
      congr 1
      rw [Rat.intCast_sub, Rat.intCast_mul, Rat.intCast_mul, Rat.intCast_mul]
    · rw [Int.natAbs_natCast] at hn
      have b1 : (R * (n : Int)).natAbs < 2 ^ (bz t + (2 * bz t + 2006)) := by
        rw [Int.natAbs_mul, Int.natAbs_natCast, Nat.pow_add]
        exact Nat.mul_lt_mul'' hR hn
      have b2 : (Y * A * (D : Int)).natAbs < 2 ^ (bz t + (bz t + 2003) + bz t) := by
        rw [Int.natAbs_mul, Int.natAbs_natCast, Int.natAbs_mul, Nat.pow_add, Nat.pow_add]
        exact Nat.mul_lt_mul'' (Nat.mul_lt_mul'' hY ha) d1
      have b3 : 2 ^ (bz t + (bz t + 2003) + bz t) ≤ 2 ^ (bz t + (2 * bz t + 2006)) := Nat.pow_le_pow_right (by decide) (by omega)
      have e5 : bz (t + 1) = (bz t + (2 * bz t + 2006)) + 1 := by
        show 3 * bz t + 2007 = _
        omega
      rw [e5, Nat.pow_succ]
      exact abs_sub_lt b1 (Nat.lt_of_lt_of_le b2 b3)
theorem bz_le {t : Nat} (h : t ≤ 5) : bz t ≤ 250000 := by
  have mono : ∀ a n, bz a ≤ bz (a + n) := fun a n => by
    induction n with
    | zero => exact Nat.le_refl _
    | succ n ih => exact Nat.le_trans ih (by show bz (a + n) ≤ 3 * bz (a + n) + 2007; omega)
  have := mono t (5 - t)
  rw [show t + (5 - t) = 5 by omega] at this
  exact Nat.le_trans this (by decide)
theorem pb_mono {t u : Nat} {p : List Frac} (h : PB t p) (hu : t ≤ u) : PB u p := by
  have mono : ∀ a n, bz a ≤ bz (a + n) := fun a n => by
    induction n with
    | zero => exact Nat.le_refl _
    | succ n ih => exact Nat.le_trans ih (by show bz (a + n) ≤ 3 * bz (a + n) + 2007; omega)
  have hb : bz t ≤ bz u := by
    have := mono t (u - t)
    rwa [show t + (u - t) = u by omega] at this
  obtain ⟨n, D, d0, d1, d2⟩ := h
  exact ⟨n, D, d0, Nat.lt_of_lt_of_le d1 (Nat.pow_le_pow_right (by decide) hb), fun i => (d2 i).mono hb⟩
/-- nine means of 60 figures have one lower number -/
theorem mb_of : ∀ (m : List Frac), NfL m → (∀ x ∈ m, Sz 200 x) → ∃ D : Nat, 0 < D ∧ D < 2 ^ (200 * m.length + 1) ∧ ∀ i, Dn D (200 * m.length + 200) (co m i)
  | [], _, _ => ⟨1, by decide, by decide, fun i => by
    rw [co_ge (by simp)]
    exact ⟨0, by simp; grind, by rw [Int.natAbs_zero]; exact Nat.pow_pos (by decide)⟩⟩
  | x :: m, hn, hs => by
    obtain ⟨D, d0, d1, d2⟩ := mb_of m (fun y hy => hn y (List.mem_cons_of_mem _ hy)) fun y hy => hs y (List.mem_cons_of_mem _ hy)
    have nx := hn x List.mem_cons_self
    have sx := hs x List.mem_cons_self
    have cx := castN nx.1
    have cD := castN d0
    refine ⟨x.d * D, Nat.mul_pos nx.1 d0, ?_, fun i => ?_⟩
    · refine Nat.lt_of_lt_of_le (Nat.mul_lt_mul'' sx.2 d1) ?_
      rw [← Nat.pow_add, List.length_cons]
      exact Nat.pow_le_pow_right (by decide) (by omega)
    · cases i with
      | zero =>
        refine ⟨x.n * (D : Int), ?_, ?_⟩
        · show val x = _
          unfold val
          rw [mk_div, castMul, Rat.intCast_mul]
          exact rat3 cx cD
        · rw [Int.natAbs_mul, Int.natAbs_natCast]
          refine Nat.lt_of_lt_of_le (Nat.mul_lt_mul'' sx.1 d1) ?_
          rw [← Nat.pow_add, List.length_cons]
          exact Nat.pow_le_pow_right (by decide) (by omega)
      | succ i =>
        obtain ⟨z, e, hz⟩ := d2 i
        refine ⟨z * (x.d : Int), ?_, ?_⟩
        · show co m i = _
          rw [e, castMul, Rat.intCast_mul]
          exact rat4 cx cD
        · rw [Int.natAbs_mul, Int.natAbs_natCast]
          refine Nat.lt_of_lt_of_le (Nat.mul_lt_mul'' hz sx.2) ?_
          rw [← Nat.pow_add, List.length_cons]
          exact Nat.pow_le_pow_right (by decide) (by omega)
theorem mb_good {m : List Frac} (hn : NfL m) (hs : ∀ x ∈ m, Sz 200 x) (hl : m.length ≤ 9) : MB m := by
  obtain ⟨D, d0, d1, d2⟩ := mb_of m hn hs
  exact ⟨hn, D, d0, Nat.lt_of_lt_of_le d1 (Nat.pow_le_pow_right (by decide) (by omega)), fun i => (d2 i).mono (by omega)⟩
end Sm

/-! # At right angles, power by power -/
namespace Sm
open Sr58 (Frac frac plus times whole total)
open Sr66 (minus over zero neg)
open Sr73 (Means meanAt mul add scale pow)
/-- less_found -/
def lfd (power : Nat) (found : List (List Frac × Frac)) (m : List Frac) : List Frac := found.foldl (fun p y => lo p y.1 (over (mwp y.1 power m) y.2)) (pow power)
/-- those found ahead of the power j -/
structure Fnd (m : List Frac) (f : List (List Frac × Frac)) (j : Nat) : Prop where
  len : f.length ≤ j
  one : ∀ t y, f[t]? = some y → PB t y.1 ∧ y.2 = msq y.1 m ∧ 0 < y.2.n ∧ y.1.length ≤ j
theorem Fnd.mono {m : List Frac} {f : List (List Frac × Frac)} {j j' : Nat} (h : Fnd m f j) (hj : j ≤ j') : Fnd m f j' :=
  ⟨Nat.le_trans h.len hj, fun t y e => let ⟨a, b, c, d⟩ := h.one t y e; ⟨a, b, c, Nat.le_trans d hj⟩⟩
theorem fnd_nil (m : List Frac) (j : Nat) : Fnd m [] j := ⟨Nat.zero_le _, fun t y e => by simp at e⟩
theorem fnd_add {m : List Frac} {f : List (List Frac × Frac)} {j : Nat} (h : Fnd m f j) {q : List Frac} (hq : PB f.length q) (hp : 0 < (msq q m).n) (hl : q.length ≤ j + 1) : Fnd m (f ++ [(q, msq q m)]) (j + 1) := by
  refine ⟨by rw [List.length_append]; have := h.len; simp; omega, fun t y e => ?_⟩
  by_cases c : t < f.length
  · rw [List.getElem?_append_left c] at e
    obtain ⟨a, b, c, d⟩ := h.one t y e
    exact ⟨a, b, c, by omega⟩
  · rw [List.getElem?_append_right (by omega)] at e
    have : t - f.length = 0 := by
      cases z : t - f.length with
      | zero => rfl
      | succ n => rw [z] at e; simp at e
    rw [this] at e
    obtain rfl := Option.some.inj e
    have ht : t = f.length := by omega
    rw [ht]
    exact ⟨hq, rfl, hp, hl⟩
/-- what is left behind t of them -/
theorem lfd_take {m : List Frac} {f : List (List Frac × Frac)} {power : Nat} (hm : MB m) (h : Fnd m f power) (h8 : power < 8) : ∀ t, t ≤ f.length → PB t (lfd power (f.take t) m) ∧ (lfd power (f.take t) m).length = power + 1
  | 0, _ => ⟨pb_pow power, len_pow power⟩
  | t + 1, ht => by
    obtain ⟨h1, h2⟩ := lfd_take hm h h8 t (by omega)
    cases e : f[t]? with
    | none =>
      have := List.getElem?_eq_none_iff.mp e
      omega
    | some y =>
      obtain ⟨a, b, c, d⟩ := h.one t y e
      have ef : lfd power (f.take (t + 1)) m = lo (lfd power (f.take t) m) y.1 (over (mwp y.1 power m) y.2) := by
        unfold lfd
        rw [List.take_succ, e, List.foldl_append]
        rfl
      rw [ef, b]
      exact ⟨pb_step h1 a hm (by omega) (by omega) (by rw [← b]; exact c), (len_lo _ _ _).trans h2⟩
theorem lfd_ok {m : List Frac} {f : List (List Frac × Frac)} {power : Nat} (hm : MB m) (h : Fnd m f power) (h8 : power < 8) : PB f.length (lfd power f m) ∧ (lfd power f m).length = power + 1 := by
  have := lfd_take hm h h8 f.length (Nat.le_refl _)
  rwa [List.take_length] at this
theorem lfd_is {s : Means} {f : List (List Frac × Frac)} {power : Nat} (hm : MB s.m) (h : Fnd s.m f power) (h8 : power < 8) : lfd power f s.m = Sr73.freed s f power := by
  have key : ∀ t, t ≤ f.length → lfd power (f.take t) s.m = Sr73.freed s (f.take t) power := by
    intro t
    induction t with
    | zero => intro _; rfl
    | succ t ih =>
      intro ht
      have ih := ih (by omega)
      cases e : f[t]? with
      | none =>
        have := List.getElem?_eq_none_iff.mp e
        omega
      | some y =>
        obtain ⟨a, b, c, d⟩ := h.one t y e
        obtain ⟨p1, p2⟩ := lfd_take hm h h8 t (by omega)
        have hne : y.2.n ≠ 0 := by omega
        have nm : Nf (mwp y.1 power s.m) := nf_mwp a.nf hm.nf power
        unfold lfd Sr73.freed at ih ⊢
        rw [List.take_succ, e, List.foldl_append, List.foldl_append, ih]
        show lo _ y.1 _ = add _ (scale (neg (over (Sr73.mean s (mul (pow power) y.1)) y.2)) y.1)
        rw [← mwp_is hm.nf a.nf power]
        have p1' := p1.nf
        have p2' := p2
        unfold lfd at p1' p2'
        rw [ih] at p1' p2'
        exact lo_is p1' a.nf (nf_over nm hne) (by rw [p2']; omega)
  have := key f.length (Nat.le_refl _)
  rwa [List.take_length] at this
/-- the powers from j on -/
def lookAt (s : Means) (j : Nat) (f : List (List Frac × Frac)) : Sr73.Found × Option Sr71.Poly := Sr73.look s (List.range' j (s.k + 1 - j)) f
theorem looked_at (s : Means) : Sr73.looked s = lookAt s 0 [] := by
  unfold Sr73.looked lookAt
  rw [List.range_eq_range']
  rfl
theorem look_end {s : Means} {f : List (List Frac × Frac)} : lookAt s (s.k + 1) f = (f, none) := by
  unfold lookAt
  rw [Nat.sub_self]
  rfl
theorem range_turn {k j : Nat} (h : j ≤ k) : List.range' j (k + 1 - j) = j :: List.range' (j + 1) (k + 1 - (j + 1)) := by
  rw [show k + 1 - j = (k + 1 - (j + 1)) + 1 by omega, List.range'_succ]
section
variable {s : Means} {f : List (List Frac × Frac)} {j : Nat}
theorem look_turn (hm : MB s.m) (h : Fnd s.m f j) (hj : j ≤ s.k) (h8 : s.k < 8) :
    (0 < (msq (lfd j f s.m) s.m).n → lookAt s j f = lookAt s (j + 1) (f ++ [(lfd j f s.m, msq (lfd j f s.m) s.m)])) ∧
    ((msq (lfd j f s.m) s.m).n < 0 → lookAt s j f = (f, some (lfd j f s.m))) ∧
    ((msq (lfd j f s.m) s.m).n = 0 → (∀ i, i ≤ s.k → (mwp (lfd j f s.m) i s.m).n = 0) → lookAt s j f = lookAt s (j + 1) f) ∧
    ((msq (lfd j f s.m) s.m).n = 0 → ∀ i, i ≤ s.k → (mwp (lfd j f s.m) i s.m).n ≠ 0 → (∀ i', i' < i → (mwp (lfd j f s.m) i' s.m).n = 0) →
      lookAt s j f = (f, some (add (pow i) (scale (over (neg (plus (Sr73.mean s (mul (pow i) (pow i))) (whole 1))) (times (whole 2) (mwp (lfd j f s.m) i s.m))) (lfd j f s.m))))) := by
  have el := lfd_is hm h (by omega : j < 8)
  obtain ⟨pq, lq⟩ := lfd_ok hm h (by omega : j < 8)
  have e2 := msq_is hm.nf pq.nf
  have e3 : ∀ i, mwp (lfd j f s.m) i s.m = Sr73.mean s (mul (lfd j f s.m) (pow i)) := fun i => mwp_is' hm.nf pq.nf i
  have un : lookAt s j f = (if (msq (lfd j f s.m) s.m).n < 0 then (f, some (lfd j f s.m)) else if 0 < (msq (lfd j f s.m) s.m).n then lookAt s (j + 1) (f ++ [(lfd j f s.m, msq (lfd j f s.m) s.m)])
      else match (List.range (s.k + 1)).find? fun i => (mwp (lfd j f s.m) i s.m).n != 0 with
      | none => lookAt s (j + 1) f
      | some i => (f, some (add (pow i) (scale (over (neg (plus (Sr73.mean s (mul (pow i) (pow i))) (whole 1))) (times (whole 2) (mwp (lfd j f s.m) i s.m))) (lfd j f s.m))))) := by
    unfold lookAt
    rw [range_turn hj]
    simp only [Sr73.look, ← el, ← e2, e3]
    rfl
  refine ⟨fun c => ?_, fun c => ?_, fun c hz => ?_, fun c i hi hn hz => ?_⟩
  · rw [un, if_neg (by omega), if_pos c]
  · rw [un, if_pos c]
  · rw [un, if_neg (by omega), if_neg (by omega)]
    have : ((List.range (s.k + 1)).find? fun i => (mwp (lfd j f s.m) i s.m).n != 0) = none := by
      rw [List.find?_eq_none]
      intro i hi
      have := hz i (by have := List.mem_range.mp hi; omega)
      simp [this]
    rw [this]
  · rw [un, if_neg (by omega), if_neg (by omega)]
    have : ((List.range (s.k + 1)).find? fun i => (mwp (lfd j f s.m) i s.m).n != 0) = some i := by
      rw [List.find?_range_eq_some]
      refine ⟨by simpa using hn, List.mem_range.mpr (by omega), fun i' hi' => ?_⟩
      simp [hz i' hi']
    rw [this]
/-- what is found, at the end -/
theorem look_fnd (hm : MB s.m) (h8 : s.k < 8) : ∀ (n j : Nat) (f : List (List Frac × Frac)), j + n = s.k + 1 → Fnd s.m f j → Fnd s.m (lookAt s j f).1 (s.k + 1)
  | 0, j, f, hj, h => by
    obtain rfl : j = s.k + 1 := by omega
    rw [look_end]
    exact h
  | n + 1, j, f, hj, h => by
    obtain ⟨pq, lq⟩ := lfd_ok hm h (by omega : j < 8)
    obtain ⟨t1, t2, t3, t4⟩ := look_turn hm h (by omega) h8
    by_cases c1 : 0 < (msq (lfd j f s.m) s.m).n
    · rw [t1 c1]
      exact look_fnd hm h8 n (j + 1) _ (by omega) (fnd_add h pq c1 (by omega))
    · by_cases c2 : (msq (lfd j f s.m) s.m).n < 0
      · rw [t2 c2]
        exact h.mono (by omega)
      · have c3 : (msq (lfd j f s.m) s.m).n = 0 := by omega
        by_cases c4 : ∀ i, i ≤ s.k → (mwp (lfd j f s.m) i s.m).n = 0
        · rw [t3 c3 c4]
          exact look_fnd hm h8 n (j + 1) _ (by omega) (h.mono (by omega))
        · have : ∃ i, i ≤ s.k ∧ (mwp (lfd j f s.m) i s.m).n ≠ 0 ∧ ∀ i', i' < i → (mwp (lfd j f s.m) i' s.m).n = 0 := by
            have ex : ∃ i, i ≤ s.k ∧ (mwp (lfd j f s.m) i s.m).n ≠ 0 := by
              refine Classical.byContradiction fun z => c4 fun i hi => ?_
              exact Classical.byContradiction fun z2 => z ⟨i, hi, z2⟩
            cases e : (List.range (s.k + 1)).find? fun i => (mwp (lfd j f s.m) i s.m).n != 0 with
            | none =>
              obtain ⟨i, hi, hn⟩ := ex
              have := List.find?_eq_none.mp e i (List.mem_range.mpr (by omega))
              simp at this
              exact absurd this hn
            | some i =>
              obtain ⟨a, b, c⟩ := List.find?_range_eq_some.mp e
              refine ⟨i, by have := List.mem_range.mp b; omega, by simpa using a, fun i' hi' => ?_⟩
              have := c i' hi'
              simpa using this
          obtain ⟨i, hi, hn, hz⟩ := this
          rw [t4 c3 i hi hn hz]
          exact h.mono (by omega)
/-- where there is a proof not all are found -/
theorem look_len (hm : MB s.m) (h8 : s.k < 8) : ∀ (n j : Nat) (f : List (List Frac × Frac)), j + n = s.k + 1 → Fnd s.m f j → (lookAt s j f).2.isSome = true → (lookAt s j f).1.length ≤ s.k
  | 0, j, f, hj, h, hs => by
    obtain rfl : j = s.k + 1 := by omega
    rw [look_end] at hs
    cases hs
  | n + 1, j, f, hj, h, hs => by
    obtain ⟨pq, lq⟩ := lfd_ok hm h (by omega : j < 8)
    obtain ⟨t1, t2, t3, t4⟩ := look_turn hm h (by omega) h8
    by_cases c1 : 0 < (msq (lfd j f s.m) s.m).n
    · rw [t1 c1] at hs ⊢
      exact look_len hm h8 n (j + 1) _ (by omega) (fnd_add h pq c1 (by omega)) hs
    · by_cases c2 : (msq (lfd j f s.m) s.m).n < 0
      · rw [t2 c2]
        exact Nat.le_trans h.len (by omega)
      · have c3 : (msq (lfd j f s.m) s.m).n = 0 := by omega
        by_cases c4 : ∀ i, i ≤ s.k → (mwp (lfd j f s.m) i s.m).n = 0
        · rw [t3 c3 c4] at hs ⊢
          exact look_len hm h8 n (j + 1) _ (by omega) (h.mono (by omega)) hs
        · have : ∃ i, i ≤ s.k ∧ (mwp (lfd j f s.m) i s.m).n ≠ 0 ∧ ∀ i', i' < i → (mwp (lfd j f s.m) i' s.m).n = 0 := by
            have ex : ∃ i, i ≤ s.k ∧ (mwp (lfd j f s.m) i s.m).n ≠ 0 := by
              refine Classical.byContradiction fun z => c4 fun i hi => ?_
              exact Classical.byContradiction fun z2 => z ⟨i, hi, z2⟩
            cases e : (List.range (s.k + 1)).find? fun i => (mwp (lfd j f s.m) i s.m).n != 0 with
            | none =>
              obtain ⟨i, hi, hn⟩ := ex
              have := List.find?_eq_none.mp e i (List.mem_range.mpr (by omega))
              simp at this
              exact absurd this hn
            | some i =>
              obtain ⟨a, b, c⟩ := List.find?_range_eq_some.mp e
              refine ⟨i, by have := List.mem_range.mp b; omega, by simpa using a, fun i' hi' => ?_⟩
              have := c i' hi'
              simpa using this
          obtain ⟨i, hi, hn, hz⟩ := this
          rw [t4 c3 i hi hn hz]
          exact Nat.le_trans h.len (by omega)
/-- strictly, if all are found -/
theorem strict_is (hm : MB s.m) (h8 : s.k < 8) : Sr73.strict s = ((Sr73.looked s).1.length == s.k + 1) := by
  unfold Sr73.strict Sr73.fits
  cases e : (Sr73.looked s).2 with
  | none => simp
  | some p =>
    have := look_len hm h8 (s.k + 1) 0 [] (by omega) (fnd_nil _ _) (by rw [← looked_at, e]; rfl)
    rw [← looked_at] at this
    have ne : ((Sr73.looked s).1.length == s.k + 1) = false := by
      rw [beq_eq_false_iff_ne]
      omega
    rw [ne]
    rfl
end
end Sm

/-! # What is found is at right angles -/
namespace Sm
open Sr58 (Frac frac plus times whole total)
open Sr66 (minus over zero neg)
open Sr73 (Means meanAt mul add scale pow)
theorem S_lin (n : Nat) (c : Rat) (f g : Nat → Rat) : S n (fun i => f i - c * g i) = S n f - c * S n g := by
  have h : S n (fun i => f i - c * g i) = S n (fun i => f i + (-c) * g i) := S_congr fun i _ => by grind
  rw [h, S_add, S_mul]
  grind
theorem B_lo {s : Means} {p o : List Frac} {c : Frac} (hp : NfL p) (ho : NfL o) (hc : Nf c) (h : o.length ≤ p.length) (r : List Frac) : B s (lo p o c) r = B s p r - val c * B s o r := by
  rw [B_L, B_L, B_L, len_lo]
  have e : S o.length (fun i => co o i * L s r i) = S p.length (fun i => co o i * L s r i) := (S_to (fun i hi => by rw [co_ge hi]; grind) h).symm
  rw [e, ← S_lin]
  refine S_congr fun i _ => ?_
  rw [co_lo hp ho hc h]
  grind
theorem val_msq {s : Means} {q : List Frac} (hs : NfM s) (hq : NfL q) : val (msq q s.m) = B s q q := by
  rw [msq_is hs hq, val_mean_mul hs hq hq]
theorem val_mwp' {s : Means} {q : List Frac} (hs : NfM s) (hq : NfL q) (j : Nat) : val (mwp q j s.m) = L s q j := val_mwp hq hs j
/-- what is found ahead of the power j -/
structure Fd (s : Means) (f : List (List Frac × Frac)) (j : Nat) : Prop where
  fnd : Fnd s.m f j
  orth : ∀ (t t' : Nat) (y y' : List Frac × Frac), f[t]? = some y → f[t']? = some y' → t < t' → B s y.1 y'.1 = 0
  span : ∀ r : List Frac, r.length ≤ s.k + 1 → (∀ (t : Nat) (y : List Frac × Frac), f[t]? = some y → B s y.1 r = 0) → ∀ i, i < j → L s r i = 0
  mono : ∀ (t : Nat) (y : List Frac × Frac), f[t]? = some y → t + 1 ≤ y.1.length ∧ co y.1 (y.1.length - 1) = 1
  full : f.length = j → ∀ (t : Nat) (y : List Frac × Frac), f[t]? = some y → y.1.length = t + 1
  below : ∀ (t : Nat) (y : List Frac × Frac), f[t]? = some y → ∀ i, i + 1 < y.1.length → L s y.1 i = 0
theorem fd_nil (s : Means) : Fd s [] 0 where
  fnd := fnd_nil _ _
  orth := fun t t' y y' e => by simp at e
  span := fun r _ _ i hi => absurd hi (Nat.not_lt_zero _)
  mono := fun t y e => by simp at e
  full := fun _ t y e => by simp at e
  below := fun t y e => by simp at e
section
variable {s : Means} {f : List (List Frac × Frac)} {j : Nat}
theorem Fd.sym (h : Fd s f j) {t t' : Nat} {y y' : List Frac × Frac} (e : f[t]? = some y) (e' : f[t']? = some y') (n : t ≠ t') : B s y.1 y'.1 = 0 := by
  rcases Nat.lt_or_gt_of_ne n with c | c
  · exact h.orth t t' y y' e e' c
  · rw [B_comm]
    exact h.orth t' t y' y e' e c
/-- behind t of them: at right angles to these, as the power itself to the rest; its highest factor is 1 -/
theorem lfd_orth (hm : MB s.m) (h : Fd s f j) (h8 : j < 8) : ∀ t, t ≤ f.length → (∀ (t' : Nat) (y : List Frac × Frac), f[t']? = some y → B s (lfd j (f.take t) s.m) y.1 = if t' < t then 0 else L s y.1 j) ∧ co (lfd j (f.take t) s.m) j = 1
  | 0, _ => by
    have e0 : lfd j (f.take 0) s.m = pow j := rfl
    refine ⟨fun t' y e => ?_, ?_⟩
    · rw [if_neg (Nat.not_lt_zero _), e0]
      exact B_pow s j y.1
    · rw [e0, co_pow, if_pos rfl]
  | t + 1, ht => by
    obtain ⟨ih1, ih2⟩ := lfd_orth hm h h8 t (by omega)
    obtain ⟨p1, p2⟩ := lfd_take hm h.fnd h8 t (by omega)
    cases e : f[t]? with
    | none =>
      have := List.getElem?_eq_none_iff.mp e
      omega
    | some y =>
      obtain ⟨a, b, c, d⟩ := h.fnd.one t y e
      have ef : lfd j (f.take (t + 1)) s.m = lo (lfd j (f.take t) s.m) y.1 (over (mwp y.1 j s.m) y.2) := by
        unfold lfd
        rw [List.take_succ, e, List.foldl_append]
        rfl
      have nm : Nf (mwp y.1 j s.m) := nf_mwp a.nf hm.nf j
      have n2 : Nf y.2 := by rw [b]; exact nf_msq a.nf hm.nf
      have ne : y.2.n ≠ 0 := by omega
      have nov := nf_over nm ne
      have vov : val (over (mwp y.1 j s.m) y.2) = L s y.1 j / B s y.1 y.1 := by
        rw [val_over nm n2 ne, b, val_msq hm.nf a.nf, val_mwp' hm.nf a.nf]
      have hB : B s y.1 y.1 ≠ 0 := by
        rw [← val_msq hm.nf a.nf, ← b]
        exact fun z => ne ((val_eq_zero n2).mp z)
      rw [ef]
      refine ⟨fun t' y' e' => ?_, ?_⟩
      · rw [B_lo p1.nf a.nf nov (by omega), ih1 t' y' e', vov]
        by_cases c1 : t' < t
        · rw [if_pos c1, if_pos (by omega), h.sym e e' (by omega)]
          grind
        · by_cases c2 : t' = t
          · subst c2
            rw [e] at e'
            obtain rfl := Option.some.inj e'
            rw [if_neg c1, if_pos (by omega)]
            grind
          · rw [if_neg c1, if_neg (by omega), h.sym e e' (by omega)]
            grind
      · rw [co_lo p1.nf a.nf nov (by omega), ih2, co_ge d]
        grind
theorem lfd_right (hm : MB s.m) (h : Fd s f j) (h8 : j < 8) : (∀ (t : Nat) (y : List Frac × Frac), f[t]? = some y → B s (lfd j f s.m) y.1 = 0) ∧ co (lfd j f s.m) j = 1 := by
  obtain ⟨h1, h2⟩ := lfd_orth hm h h8 f.length (Nat.le_refl _)
  rw [List.take_length] at h1 h2
  refine ⟨fun t y e => ?_, h2⟩
  have := h1 t y e
  rwa [if_pos (List.getElem?_eq_some_iff.mp e).1] at this
/-- the power j by what is left of it and those found -/
theorem L_lfd (hm : MB s.m) (h : Fd s f j) (h8 : j < 8) (r : List Frac) (hr : ∀ (t : Nat) (y : List Frac × Frac), f[t]? = some y → B s y.1 r = 0) : L s r j = B s (lfd j f s.m) r := by
  have key : ∀ t, t ≤ f.length → B s (lfd j (f.take t) s.m) r = L s r j := by
    intro t
    induction t with
    | zero =>
      intro _
      exact B_pow s j r
    | succ t ih =>
      intro ht
      have ih := ih (by omega)
      obtain ⟨p1, p2⟩ := lfd_take hm h.fnd h8 t (by omega)
      cases e : f[t]? with
      | none =>
        have := List.getElem?_eq_none_iff.mp e
        omega
      | some y =>
        obtain ⟨a, b, c, d⟩ := h.fnd.one t y e
        have ef : lfd j (f.take (t + 1)) s.m = lo (lfd j (f.take t) s.m) y.1 (over (mwp y.1 j s.m) y.2) := by
          unfold lfd
          rw [List.take_succ, e, List.foldl_append]
          rfl
        rw [ef, B_lo p1.nf a.nf (nf_over (nf_mwp a.nf hm.nf j) (by omega)) (by omega), ih, hr t y e]
        grind
  have := key f.length (Nat.le_refl _)
  rw [List.take_length] at this
  exact this.symm
/-- the rest meets no power below its own -/
theorem lfd_below (hm : MB s.m) (h : Fd s f j) (h8 : s.k < 8) (hj : j ≤ s.k) {i : Nat} (hi : i < j) : L s (lfd j f s.m) i = 0 := by
  obtain ⟨h1, h2⟩ := lfd_right hm h (by omega)
  obtain ⟨pq, lq⟩ := lfd_ok hm h.fnd (by omega : j < 8)
  exact h.span _ (by omega) (fun t y e => by rw [B_comm]; exact h1 t y e) i hi
theorem below_n (hm : MB s.m) (h : Fd s f j) (h8 : s.k < 8) (hj : j ≤ s.k) {i : Nat} (hi : i < j) : (mwp (lfd j f s.m) i s.m).n = 0 := by
  obtain ⟨pq, lq⟩ := lfd_ok hm h.fnd (by omega : j < 8)
  have := lfd_below hm h h8 hj hi
  rw [← val_mwp' hm.nf pq.nf] at this
  exact (val_eq_zero (nf_mwp pq.nf hm.nf i)).mp this
/-- it is found -/
theorem fd_found (hm : MB s.m) (h : Fd s f j) (h8 : s.k < 8) (hj : j ≤ s.k) (hp : 0 < (msq (lfd j f s.m) s.m).n) : Fd s (f ++ [(lfd j f s.m, msq (lfd j f s.m) s.m)]) (j + 1) := by
  obtain ⟨h1, h2⟩ := lfd_right hm h (by omega)
  obtain ⟨pq, lq⟩ := lfd_ok hm h.fnd (by omega : j < 8)
  have cs : ∀ (t : Nat) (y : List Frac × Frac), (f ++ [(lfd j f s.m, msq (lfd j f s.m) s.m)])[t]? = some y → (t < f.length ∧ f[t]? = some y) ∨ (t = f.length ∧ y = (lfd j f s.m, msq (lfd j f s.m) s.m)) := fun t y e => by
    by_cases c : t < f.length
    · rw [List.getElem?_append_left c] at e
      exact .inl ⟨c, e⟩
    · rw [List.getElem?_append_right (by omega)] at e
      cases z : t - f.length with
      | zero =>
        rw [z] at e
        exact .inr ⟨by omega, (Option.some.inj e).symm⟩
      | succ n => rw [z] at e; simp at e
  refine ⟨fnd_add h.fnd pq hp (by omega), fun t t' y y' e e' lt => ?_, fun r hr ho i hi => ?_, fun t y e => ?_, fun hl t y e => ?_, fun t y e i hi => ?_⟩
  · rcases cs t y e with ⟨c, e1⟩ | ⟨c, rfl⟩
    · rcases cs t' y' e' with ⟨c', e1'⟩ | ⟨c', rfl⟩
      · exact h.orth t t' y y' e1 e1' lt
      · rw [B_comm]
        exact h1 t y e1
    · rcases cs t' y' e' with ⟨c', e1'⟩ | ⟨c', rfl⟩
      · omega
      · omega
  · have old : ∀ (t : Nat) (y : List Frac × Frac), f[t]? = some y → B s y.1 r = 0 := fun t y e => ho t y (by
      rw [List.getElem?_append_left (List.getElem?_eq_some_iff.mp e).1]
      exact e)
    by_cases c : i < j
    · exact h.span r hr old i c
    · obtain rfl : i = j := by omega
      rw [L_lfd hm h (by omega) r old]
      refine ho f.length (lfd i f s.m, msq (lfd i f s.m) s.m) ?_
      rw [List.getElem?_append_right (Nat.le_refl _), Nat.sub_self]
      rfl
  · rcases cs t y e with ⟨c, e1⟩ | ⟨c, rfl⟩
    · exact h.mono t y e1
    · have := h.fnd.len
      refine ⟨?_, ?_⟩
      · show t + 1 ≤ (lfd j f s.m).length
        omega
      · show co (lfd j f s.m) ((lfd j f s.m).length - 1) = 1
        rw [lq, Nat.add_sub_cancel]
        exact h2
  · have hl' : f.length = j := by
      rw [List.length_append] at hl
      simpa using hl
    rcases cs t y e with ⟨c, e1⟩ | ⟨c, rfl⟩
    · exact h.full hl' t y e1
    · show (lfd j f s.m).length = t + 1
      omega
  · rcases cs t y e with ⟨c, e1⟩ | ⟨c, rfl⟩
    · exact h.below t y e1 i hi
    · have hi : i + 1 < (lfd j f s.m).length := hi
      exact lfd_below hm h h8 hj (by omega)
/-- it is passed over -/
theorem fd_skip (hm : MB s.m) (h : Fd s f j) (h8 : s.k < 8) (hj : j ≤ s.k) (hz : ∀ i, i ≤ s.k → (mwp (lfd j f s.m) i s.m).n = 0) : Fd s f (j + 1) := by
  obtain ⟨pq, lq⟩ := lfd_ok hm h.fnd (by omega : j < 8)
  refine ⟨h.fnd.mono (by omega), h.orth, fun r hr ho i hi => ?_, h.mono, fun hl => ?_, h.below⟩
  · by_cases c : i < j
    · exact h.span r hr ho i c
    · obtain rfl : i = j := by omega
      rw [L_lfd hm h (by omega) r ho, B_comm, B_L]
      refine S_zero fun l hl => ?_
      have : L s (lfd i f s.m) l = 0 := by
        rw [← val_mwp' hm.nf pq.nf]
        exact (val_eq_zero (nf_mwp pq.nf hm.nf l)).mpr (hz l (by omega))
      rw [this]
      grind
  · have := h.fnd.len
    omega
/-- at the end -/
theorem look_fd (hm : MB s.m) (h8 : s.k < 8) : ∀ (n j : Nat) (f : List (List Frac × Frac)), j + n = s.k + 1 → Fd s f j → ∃ j', j' ≤ s.k + 1 ∧ Fd s (lookAt s j f).1 j'
  | 0, j, f, hj, h => by
    obtain rfl : j = s.k + 1 := by omega
    rw [look_end]
    exact ⟨_, Nat.le_refl _, h⟩
  | n + 1, j, f, hj, h => by
    obtain ⟨t1, t2, t3, t4⟩ := look_turn hm h.fnd (by omega) h8
    by_cases c1 : 0 < (msq (lfd j f s.m) s.m).n
    · rw [t1 c1]
      exact look_fd hm h8 n (j + 1) _ (by omega) (fd_found hm h h8 (by omega) c1)
    · by_cases c2 : (msq (lfd j f s.m) s.m).n < 0
      · rw [t2 c2]
        exact ⟨j, by omega, h⟩
      · have c3 : (msq (lfd j f s.m) s.m).n = 0 := by omega
        by_cases c4 : ∀ i, i ≤ s.k → (mwp (lfd j f s.m) i s.m).n = 0
        · rw [t3 c3 c4]
          exact look_fd hm h8 n (j + 1) _ (by omega) (fd_skip hm h h8 (by omega) c4)
        · have : ∃ i, i ≤ s.k ∧ (mwp (lfd j f s.m) i s.m).n ≠ 0 ∧ ∀ i', i' < i → (mwp (lfd j f s.m) i' s.m).n = 0 := by
            have ex : ∃ i, i ≤ s.k ∧ (mwp (lfd j f s.m) i s.m).n ≠ 0 := by
              refine Classical.byContradiction fun z => c4 fun i hi => ?_
              exact Classical.byContradiction fun z2 => z ⟨i, hi, z2⟩
            cases e : (List.range (s.k + 1)).find? fun i => (mwp (lfd j f s.m) i s.m).n != 0 with
            | none =>
              obtain ⟨i, hi, hn⟩ := ex
              have := List.find?_eq_none.mp e i (List.mem_range.mpr (by omega))
              simp at this
              exact absurd this hn
            | some i =>
              obtain ⟨a, b, c⟩ := List.find?_range_eq_some.mp e
              refine ⟨i, by have := List.mem_range.mp b; omega, by simpa using a, fun i' hi' => ?_⟩
              have := c i' hi'
              simpa using this
          obtain ⟨i, hi, hn, hz⟩ := this
          rw [t4 c3 i hi hn hz]
          exact ⟨j, by omega, h⟩
theorem looked_fd (hm : MB s.m) (h8 : s.k < 8) : ∃ j', j' ≤ s.k + 1 ∧ Fd s (Sr73.looked s).1 j' := by
  rw [looked_at]
  exact look_fd hm h8 (s.k + 1) 0 [] (by omega) (fd_nil s)
/-- strictly: all of them -/
theorem strict_fd (hm : MB s.m) (h8 : s.k < 8) (hs : Sr73.strict s = true) : Fd s (Sr73.looked s).1 (s.k + 1) ∧ (Sr73.looked s).1.length = s.k + 1 := by
  rw [strict_is hm h8] at hs
  have hl : (Sr73.looked s).1.length = s.k + 1 := by simpa using hs
  obtain ⟨j', h1, h2⟩ := looked_fd hm h8
  have := h2.fnd.len
  obtain rfl : j' = s.k + 1 := by omega
  exact ⟨h2, hl⟩
/-- the proof by a power -/
theorem proof_is (hm : MB s.m) (h : Fd s f j) (h8 : s.k < 8) (hj : j ≤ s.k) {i : Nat} (hi : i ≤ s.k) (hl : s.m.length = 2 * s.k + 1) (hn : (mwp (lfd j f s.m) i s.m).n ≠ 0) :
    j < i + 1 ∧ add (pow i) (scale (over (neg (plus (Sr73.mean s (mul (pow i) (pow i))) (whole 1))) (times (whole 2) (mwp (lfd j f s.m) i s.m))) (lfd j f s.m)) =
      lo (pow i) (lfd j f s.m) (over (plus (s.m.getD (2 * i) zero) (whole 1)) (times (whole 2) (mwp (lfd j f s.m) i s.m))) := by
  obtain ⟨pq, lq⟩ := lfd_ok hm h.fnd (by omega : j < 8)
  have hji : j < i + 1 := by
    by_cases c : i < j
    · exact absurd (below_n hm h h8 hj c) hn
    · omega
  refine ⟨hji, ?_⟩
  have nr : Nf (Sr73.mean s (mul (pow i) (pow i))) := nf_mean hm.nf (nf_mul (nf_pow i) (nf_pow i))
  have er : Sr73.mean s (mul (pow i) (pow i)) = s.m.getD (2 * i) zero := by
    refine val_inj nr (nf_getD hm.nf _) ?_
    rw [val_mean_mul hm.nf (nf_pow i) (nf_pow i), B_pow]
    unfold L
    rw [len_pow, S_one (a := i) (Nat.lt_succ_self i)]
    · rw [co_pow, if_pos rfl, show i + i = 2 * i by omega]
      show 1 * co s.m (2 * i) = co s.m (2 * i)
      grind
    · intro l hl
      rw [co_pow, if_neg hl]
      grind
  rw [er]
  have n1 := nf_plus (nf_getD hm.nf (2 * i)) (nf_whole 1)
  have nw := nf_mwp pq.nf hm.nf i
  have n2 := nf_times (nf_whole 2) nw
  have v2 : val (times (whole 2) (mwp (lfd j f s.m) i s.m)) ≠ 0 := by
    rw [val_times (nf_whole 2) nw, val_whole]
    intro z
    have : val (mwp (lfd j f s.m) i s.m) = 0 := by
      push_cast at z
      grind
    exact hn ((val_eq_zero nw).mp this)
  have ne2 : (times (whole 2) (mwp (lfd j f s.m) i s.m)).n ≠ 0 := fun z => v2 ((val_eq_zero n2).mpr z)
  rw [lo_is (nf_pow i) pq.nf (nf_over n1 ne2) (by rw [lq, len_pow]; omega)]
  congr 2
  refine val_inj (nf_over (nf_neg n1) ne2) (nf_neg (nf_over n1 ne2)) ?_
  rw [val_over (nf_neg n1) n2 ne2, val_neg, val_neg, val_over n1 n2 ne2]
  grind
end
end Sm

/-! # Values at a place; the most there; turns -/
namespace Sm
open Sr58 (Frac frac plus times whole total)
open Sr66 (minus over zero neg)
open Sr73 (Means meanAt mul add scale pow)
/-- a polynomial's value -/
def ev : List Frac → Rat → Rat
  | [], _ => 0
  | c :: l, t => val c + t * ev l t
theorem valueAt_foldr (p : List Frac) (x : Frac) : Sr71.valueAt p x = p.foldr (fun c r => plus (times r x) c) zero := by
  unfold Sr71.valueAt
  rw [List.foldl_reverse]
theorem val_value {x : Frac} (hx : Nf x) : ∀ (p : List Frac), NfL p → Nf (Sr71.valueAt p x) ∧ val (Sr71.valueAt p x) = ev p (val x)
  | [], _ => by
    rw [valueAt_foldr]
    exact ⟨nf_zero, val_zero⟩
  | c :: l, h => by
    obtain ⟨h1, h2⟩ := val_value hx l fun y hy => h y (List.mem_cons_of_mem _ hy)
    rw [valueAt_foldr] at h1 h2 ⊢
    have hc := h c List.mem_cons_self
    refine ⟨nf_plus (nf_times h1 hx) hc, ?_⟩
    show val (plus (times _ x) c) = val c + val x * ev l (val x)
    rw [val_plus (nf_times h1 hx) hc, val_times h1 hx, h2]
    grind
/-! ### the most -/
def moG (x : Frac) (y : List Frac × Frac) : Frac := over (times (Sr71.valueAt y.1 x) (Sr71.valueAt y.1 x)) y.2
def moTo (f : List (List Frac × Frac)) (x : Frac) (k : Nat) : Frac := ((f.take k).map (moG x)).foldl plus zero
theorem moTo_succ {f : List (List Frac × Frac)} {x : Frac} {k : Nat} {y : List Frac × Frac} (h : f[k]? = some y) : moTo f x (k + 1) = plus (moTo f x k) (moG x y) := by
  unfold moTo
  rw [List.take_succ, h, List.map_append, List.foldl_append]
  rfl
theorem most_is (s : Means) (x : Frac) : Sr73.most s x = over (whole 1) (moTo (Sr73.looked s).1 x (Sr73.looked s).1.length) := by
  unfold moTo
  rw [List.take_length]
  rfl
/-- each found one with its sizes -/
structure MoY (x : Frac) (y : List Frac × Frac) : Prop where
  nf : NfL y.1
  nv : Nf (Sr71.valueAt y.1 x)
  sv : Sz 402000 (Sr71.valueAt y.1 x)
  nh : Nf y.2
  sh : Sz 7600000 y.2
  ph : 0 < y.2.n
theorem MoY.g {x : Frac} {y : List Frac × Frac} (h : MoY x y) : Nf (moG x y) ∧ Sz 8404000 (moG x y) ∧ val (moG x y) = val (Sr71.valueAt y.1 x) * val (Sr71.valueAt y.1 x) / val y.2 := by
  have ne : y.2.n ≠ 0 := by have := h.ph; omega
  have nt := nf_times h.nv h.nv
  refine ⟨nf_over nt ne, (sz_over nt ne (sz_times h.nv h.nv h.sv h.sv) h.sh).mono (by omega), ?_⟩
  unfold moG
  rw [val_over nt h.nh ne, val_times h.nv h.nv]
theorem moTo_ok {f : List (List Frac × Frac)} {x : Frac} (h : ∀ y ∈ f, MoY x y) : ∀ k, k ≤ f.length → Nf (moTo f x k) ∧ Sz (1 + k * 8404001) (moTo f x k) ∧ 0 ≤ val (moTo f x k)
  | 0, _ => ⟨nf_zero, sz_zero.mono (by omega), by
      show 0 ≤ val zero
      rw [val_zero]
      exact Rat.le_refl⟩
  | k + 1, hk => by
    obtain ⟨h1, h2, h3⟩ := moTo_ok h k (by omega)
    have e : f[k]? = some f[k] := List.getElem?_eq_getElem (by omega)
    have hy := h f[k] (List.getElem_mem (by omega))
    obtain ⟨g1, g2, g3⟩ := hy.g
    rw [moTo_succ e]
    refine ⟨nf_plus h1 g1, (sz_plus h1 g1 h2 g2).mono (by rw [Nat.succ_mul]; omega), ?_⟩
    rw [val_plus h1 g1, g3]
    have hp : 0 < val f[k].2 := (val_pos hy.nh).mpr hy.ph
    have hq : 0 ≤ val (Sr71.valueAt f[k].1 x) * val (Sr71.valueAt f[k].1 x) := by
      generalize val (Sr71.valueAt f[k].1 x) = a
      by_cases c : 0 ≤ a
      · exact Rat.mul_nonneg c c
      · have c' : 0 ≤ -a := by grind
        have := Rat.mul_nonneg c' c'
        grind
    have hd : 0 ≤ val (Sr71.valueAt f[k].1 x) * val (Sr71.valueAt f[k].1 x) / val f[k].2 := by
      rw [Rat.div_def]
      exact Rat.mul_nonneg hq (Rat.le_of_lt (Rat.inv_pos.mpr hp))
    grind
theorem moTo_pos {f : List (List Frac × Frac)} {x : Frac} (h : ∀ y ∈ f, MoY x y) {y0 : List Frac × Frac} (e0 : f[0]? = some y0) (h0 : val (Sr71.valueAt y0.1 x) = 1) : 0 < (moTo f x f.length).n := by
  have key : ∀ k, 1 ≤ k → k ≤ f.length → 0 < val (moTo f x k) := by
    intro k
    induction k with
    | zero => intro h; omega
    | succ k ih =>
      intro _ hk
      obtain ⟨m1, m2, m3⟩ := moTo_ok h k (by omega)
      by_cases c : k = 0
      · subst c
        rw [moTo_succ e0]
        have hy := h y0 (List.mem_of_getElem? e0)
        obtain ⟨g1, g2, g3⟩ := hy.g
        rw [val_plus m1 g1, g3, h0]
        have hp : 0 < val y0.2 := (val_pos hy.nh).mpr hy.ph
        have : 0 < 1 * 1 / val y0.2 := by
          rw [Rat.div_def]
          have := Rat.inv_pos.mpr hp
          grind
        grind
      · have e : f[k]? = some f[k] := List.getElem?_eq_getElem (by omega)
        have hy := h f[k] (List.getElem_mem (by omega))
        obtain ⟨g1, g2, g3⟩ := hy.g
        rw [moTo_succ e, val_plus m1 g1]
        have ih := ih (by omega) (by omega)
        obtain ⟨n1, n2, n3⟩ := moTo_ok h (k + 1) hk
        have hg : 0 ≤ val (moG x f[k]) := by
          have := moTo_ok (f := [f[k]]) (x := x) (fun y hy' => by rw [List.mem_singleton.mp hy']; exact hy) 1 (by simp)
          have e1 : moTo [f[k]] x 1 = plus zero (moG x f[k]) := rfl
          rw [e1] at this
          have t := this.2.2
          rw [val_plus nf_zero g1, val_zero] at t
          grind
        grind
  have hl : 1 ≤ f.length := by
    have := (List.getElem?_eq_some_iff.mp e0).1
    omega
  have := key f.length hl (Nat.le_refl _)
  exact (val_pos (moTo_ok h f.length (Nat.le_refl _)).1).mp this
/-- where it fits strictly -/
theorem strict_moY {s : Means} (hm : MB s.m) (hk : s.k ≤ 4) (hl : s.m.length = 2 * s.k + 1) (sm : SzL 200 s.m) (hs : Sr73.strict s = true) {x : Frac} (hx : Nf x) (sx : Sz 10 x) : ∀ y ∈ (Sr73.looked s).1, MoY x y := by
  obtain ⟨h, hfl⟩ := strict_fd hm (by omega) hs
  intro y hy
  obtain ⟨t, ht, e⟩ := List.mem_iff_getElem.mp hy
  have e : (Sr73.looked s).1[t]? = some y := by rw [List.getElem?_eq_getElem ht, e]
  obtain ⟨pb, ey, pos, yl⟩ := h.fnd.one t y e
  have fl := h.full hfl t y e
  have bzt : bz t ≤ 80361 := by
    have mono : ∀ a n, bz a ≤ bz (a + n) := fun a n => by
      induction n with
      | zero => exact Nat.le_refl _
      | succ n ih => exact Nat.le_trans ih (by show bz (a + n) ≤ 3 * bz (a + n) + 2007; omega)
    have := mono t (4 - t)
    rw [show t + (4 - t) = 4 by omega] at this
    exact Nat.le_trans this (by decide)
  have va := vaTo_fine pb.nf hx pb.sz sx y.1.length
  have ev : vaTo y.1 x y.1.length = Sr71.valueAt y.1 x := by
    unfold vaTo Sr71.valueAt
    rw [← List.length_reverse, List.take_length]
  rw [ev] at va
  refine ⟨pb.nf, va.1, va.2.mono ?_, by rw [ey]; exact nf_msq pb.nf hm.nf, ?_, pos⟩
  · have := Nat.mul_le_mul (show y.1.length ≤ 5 by omega) (show bz t + 10 + 1 ≤ 80372 by omega)
    omega
  · rw [ey]
    refine (sz_msqTo pb.nf hm.nf pb.sz sm y.1.length).mono ?_
    have h5 : y.1.length ≤ 5 := by omega
    have h1 := Nat.mul_le_mul h5 (show bz t + 200 + 1 ≤ 80562 by omega)
    have h2 := Nat.mul_le_mul h5 (show bz t + (1 + y.1.length * (bz t + 200 + 1)) + 1 ≤ 500000 by omega)
    omega
theorem strict_first {s : Means} (hm : MB s.m) (hk : s.k ≤ 4) (hs : Sr73.strict s = true) : ∃ y0, (Sr73.looked s).1[0]? = some y0 ∧ ∀ x, Nf x → val (Sr71.valueAt y0.1 x) = 1 := by
  obtain ⟨h, hfl⟩ := strict_fd hm (by omega) hs
  have e : (Sr73.looked s).1[0]? = some ((Sr73.looked s).1[0]'(by omega)) := List.getElem?_eq_getElem (by omega)
  generalize (Sr73.looked s).1[0]'(by omega) = y at e
  refine ⟨y, e, fun x hx => ?_⟩
  obtain ⟨pb, ey, pos, yl⟩ := h.fnd.one 0 y e
  have fl := h.full hfl 0 y e
  have mo := (h.mono 0 y e).2
  rw [(val_value hx y.1 pb.nf).2]
  match hy : y.1, fl with
  | [c], _ =>
    rw [hy] at mo
    have : val c = 1 := mo
    show val c + val x * 0 = 1
    rw [this]
    grind
/-! ### turns -/
theorem mul_pow1 {y : List Frac} (hy : NfL y) (h0 : y ≠ []) : mul (pow 1) y = [zero] ++ y := by
  refine ext_co (nf_mul (nf_pow 1) hy) (nf_cons0 hy) ?_ fun i _ => ?_
  · rw [len_mul, if_neg (by simp [h0, pow]), len_pow]
    simp
    omega
  · rw [co_mul (nf_pow 1) hy]
    cases i with
    | zero =>
      show 0 + co (pow 1) 0 * co y 0 = co ([zero] ++ y) 0
      rw [co_pow, if_neg (by decide)]
      show 0 + 0 * co y 0 = val zero
      rw [val_zero]
      grind
    | succ i =>
      rw [S_one (a := 1) (by omega)]
      · rw [co_pow, if_pos rfl, Nat.add_sub_cancel]
        show 1 * co y i = co y i
        grind
      · intro j hj
        rw [co_pow, if_neg hj]
        grind
theorem mpr_is {s : Means} {y : List Frac} (hs : NfM s) (hy : NfL y) (h0 : y ≠ []) : mpr y ([zero] ++ y) s.m = Sr73.mean s (mul (mul (pow 1) y) y) := by
  rw [mul_pow1 hy h0]
  have n0 := nf_cons0 hy
  refine val_inj (val_mprTo hy n0 hs _).2 (nf_mean hs (nf_mul n0 hy)) ?_
  rw [val_mean_mul hs n0 hy, B_comm, B_L]
  show val (mprTo y ([zero] ++ y) s.m y.length) = _
  rw [(val_mprTo hy n0 hs _).1]
  refine S_congr fun i _ => ?_
  rw [val_mwp n0 hs]
  rfl
def turnAt (f : List (List Frac × Frac)) (m : List Frac) (j : Nat) : Frac × Frac :=
  (over (mpr (f.getD j ([], whole 1)).1 ([zero] ++ (f.getD j ([], whole 1)).1) m) (f.getD j ([], whole 1)).2, if j = 0 then zero else over (f.getD j ([], whole 1)).2 (f.getD (j - 1) ([], whole 1)).2)
theorem turns_is {s : Means} (hm : MB s.m) (hk : s.k ≤ 4) (hs : Sr73.strict s = true) : Sr73.turnsOf s = (List.range s.k).map (turnAt (Sr73.looked s).1 s.m) := by
  obtain ⟨h, hfl⟩ := strict_fd hm (by omega) hs
  unfold Sr73.turnsOf
  simp only []
  rw [hfl, Nat.add_sub_cancel]
  refine List.map_congr_left fun j hj => ?_
  have hj := List.mem_range.mp hj
  have e : (Sr73.looked s).1[j]? = some ((Sr73.looked s).1[j]'(by omega)) := List.getElem?_eq_getElem (by omega)
  have ed : (Sr73.looked s).1.getD j ([], whole 1) = (Sr73.looked s).1[j]'(by omega) := by
    rw [List.getD_eq_getElem?_getD, e]
    rfl
  unfold turnAt
  rw [ed]
  generalize (Sr73.looked s).1[j]'(by omega) = y at e
  obtain ⟨pb, ey, pos, yl⟩ := h.fnd.one j y e
  have fl := h.full hfl j y e
  rw [mpr_is hm.nf pb.nf (fun z => by rw [z] at fl; simp at fl)]
end Sm

/-! # Chains of polynomials, by their signs -/
namespace Sm
/-! ### values -/
def rv : List Rat → Rat → Rat
  | [], _ => 0
  | c :: l, x => c + x * rv l x
def rd : List Rat → Rat → Rat
  | [], _ => 0
  | _ :: l, x => rv l x + x * rd l x
def Bd (M a : Rat) : Prop := -M ≤ a ∧ a ≤ M
theorem Bd.mono {M N a : Rat} (h : Bd M a) (hN : M ≤ N) : Bd N a := by
  obtain ⟨h1, h2⟩ := h
  exact ⟨by grind, by grind⟩
theorem Bd.pos {M a : Rat} (h : Bd M a) : 0 ≤ M := by
  obtain ⟨h1, h2⟩ := h
  grind
theorem Bd.add {M N a b : Rat} (ha : Bd M a) (hb : Bd N b) : Bd (M + N) (a + b) := by
  obtain ⟨h1, h2⟩ := ha
  obtain ⟨h3, h4⟩ := hb
  exact ⟨by grind, by grind⟩
theorem Bd.neg {M a : Rat} (ha : Bd M a) : Bd M (-a) := by
  obtain ⟨h1, h2⟩ := ha
  exact ⟨by grind, by grind⟩
theorem Bd.mul {M N a b : Rat} (ha : Bd M a) (hb : Bd N b) : Bd (M * N) (a * b) := by
  obtain ⟨h1, h2⟩ := ha
  obtain ⟨h3, h4⟩ := hb
  have p1 := Rat.mul_nonneg (show 0 ≤ M - a by grind) (show 0 ≤ N + b by grind)
  have p2 := Rat.mul_nonneg (show 0 ≤ M + a by grind) (show 0 ≤ N - b by grind)
  have p3 := Rat.mul_nonneg (show 0 ≤ M - a by grind) (show 0 ≤ N - b by grind)
  have p4 := Rat.mul_nonneg (show 0 ≤ M + a by grind) (show 0 ≤ N + b by grind)
  exact ⟨by grind, by grind⟩
def ab (c : Rat) : Rat := if 0 ≤ c then c else -c
theorem bd_ab (c : Rat) : Bd (ab c) c := by
  unfold ab Bd
  split <;> exact ⟨by grind, by grind⟩
theorem ab_nonneg (c : Rat) : 0 ≤ ab c := (bd_ab c).pos
theorem lip (l : List Rat) {R : Rat} (hR : 0 < R) : ∃ M, 0 < M ∧ ∀ x y, Bd R x → Bd R y → Bd M (rv l x) ∧ ∀ e, Bd e (x - y) → Bd (M * e) (rv l x - rv l y) := by
  induction l with
  | nil =>
    refine ⟨1, by decide, fun x y _ _ => ⟨⟨by show -1 ≤ (0 : Rat); decide, by show (0 : Rat) ≤ 1; decide⟩, fun e he => ?_⟩⟩
    have := he.pos
    show Bd (1 * e) (0 - 0)
    exact ⟨by grind, by grind⟩
  | cons c l ih =>
    obtain ⟨M, M0, h⟩ := ih
    have a0 := ab_nonneg c
    have rm := Rat.mul_nonneg (Rat.le_of_lt hR) (Rat.le_of_lt M0)
    refine ⟨ab c + R * M + M, by grind, fun x y hx hy => ?_⟩
    obtain ⟨h1, h2⟩ := h x y hx hy
    refine ⟨((bd_ab c).add (hx.mul h1)).mono (by grind), fun e he => ?_⟩
    have e0 := he.pos
    have e1 : rv (c :: l) x - rv (c :: l) y = (x - y) * rv l x + y * (rv l x - rv l y) := by
      show c + x * rv l x - (c + y * rv l y) = _
      grind
    rw [e1]
    refine ((he.mul h1).add (hy.mul (h2 e he))).mono ?_
    have := Rat.mul_nonneg a0 e0
    grind
theorem lipD (l : List Rat) {R : Rat} (hR : 0 < R) : ∃ M, 0 < M ∧ ∀ x, Bd R x → Bd M (rd l x) := by
  induction l with
  | nil => exact ⟨1, by decide, fun x _ => ⟨by show -1 ≤ (0 : Rat); decide, by show (0 : Rat) ≤ 1; decide⟩⟩
  | cons c l ih =>
    obtain ⟨M, M0, h⟩ := ih
    obtain ⟨N, N0, g⟩ := lip l hR
    have rm := Rat.mul_nonneg (Rat.le_of_lt hR) (Rat.le_of_lt M0)
    refine ⟨N + R * M, by grind, fun x hx => ?_⟩
    exact ((g x x hx hx).1.add (hx.mul (h x hx)))
/-- something small enough -/
theorem small_e {N d : Rat} (hN : 0 < N) (hd : 0 < d) : ∃ e, 0 < e ∧ N * e = d := by
  refine ⟨d / N, ?_, ?_⟩
  · rw [Rat.div_def]
    exact Rat.mul_pos hd (Rat.inv_pos.mpr hN)
  · grind
theorem minOf {a b : Rat} (ha : 0 < a) (hb : 0 < b) : ∃ c, 0 < c ∧ c ≤ a ∧ c ≤ b := by
  by_cases h : a ≤ b
  · exact ⟨a, ha, Rat.le_refl, h⟩
  · exact ⟨b, hb, by grind, Rat.le_refl⟩
/-! ### signs -/
def sg (r : Rat) : Int := if r < 0 then -1 else if 0 < r then 1 else 0
theorem sg_pos {r : Rat} (h : 0 < r) : sg r = 1 := by
  unfold sg
  rw [if_neg (by grind), if_pos h]
theorem sg_neg {r : Rat} (h : r < 0) : sg r = -1 := by
  unfold sg
  rw [if_pos h]
theorem sg_zero {r : Rat} (h : r = 0) : sg r = 0 := by
  unfold sg
  rw [if_neg (by grind), if_neg (by grind)]
theorem sg_cases (r : Rat) : (0 < r ∧ sg r = 1) ∨ (r < 0 ∧ sg r = -1) ∨ (r = 0 ∧ sg r = 0) := by
  by_cases h : 0 < r
  · exact .inl ⟨h, sg_pos h⟩
  · by_cases h2 : r < 0
    · exact .inr (.inl ⟨h2, sg_neg h2⟩)
    · have : r = 0 := by grind
      exact .inr (.inr ⟨this, sg_zero this⟩)
/-- both above, or both below 0 -/
def Same (a b : Rat) : Prop := (0 < a ∧ 0 < b) ∨ (a < 0 ∧ b < 0)
theorem Same.sg {a b : Rat} (h : Same a b) : sg a = sg b ∧ sg a ≠ 0 := by
  rcases h with ⟨h1, h2⟩ | ⟨h1, h2⟩
  · rw [sg_pos h1, sg_pos h2]; decide
  · rw [sg_neg h1, sg_neg h2]; decide
theorem not_same {a b e : Rat} (h : ¬ Same a b) (he : Bd e (a - b)) : Bd e a ∧ Bd e b := by
  obtain ⟨h1, h2⟩ := he
  unfold Same at h
  have h3 : ¬ (0 < a ∧ 0 < b) := fun z => h (.inl z)
  have h4 : ¬ (a < 0 ∧ b < 0) := fun z => h (.inr z)
  unfold Bd
  grind
theorem same_of {a b d e : Rat} (ha : d ≤ a ∨ a ≤ -d) (hb : d ≤ b ∨ b ≤ -d) (he : Bd e (a - b)) (hed : e < d) : Same a b := by
  obtain ⟨h1, h2⟩ := he
  unfold Same
  grind
/-! ### turns -/
theorem tb_zero (l : List Int) : Sr71.turnsBy (0 :: l) = Sr71.turnsBy l := by
  unfold Sr71.turnsBy
  rw [List.filter_cons_of_neg (by decide)]
theorem tb_two {a b : Int} (l : List Int) (ha : a ≠ 0) (hb : b ≠ 0) : Sr71.turnsBy (a :: b :: l) = (if a * b < 0 then 1 else 0) + Sr71.turnsBy (b :: l) := by
  unfold Sr71.turnsBy
  rw [List.filter_cons_of_pos (by simpa using ha), List.filter_cons_of_pos (by simpa using hb)]
  rfl
theorem tb_one (a : Int) : Sr71.turnsBy [a] = 0 := by
  unfold Sr71.turnsBy
  by_cases h : a = 0
  · rw [h]; rfl
  · rw [List.filter_cons_of_pos (by simpa using h)]
    rfl
theorem tb_any {a b : Int} (l : List Int) (hb : b ≠ 0) : Sr71.turnsBy (a :: b :: l) = (if a * b < 0 then 1 else 0) + Sr71.turnsBy (b :: l) := by
  by_cases h : a = 0
  · subst h
    rw [tb_zero, Int.zero_mul, if_neg (by decide)]
    omega
  · exact tb_two l h hb
theorem tb_gap {a b c : Int} (l : List Int) (ha : a = 1 ∨ a = -1) (hc : c = -a) (hb : b = 1 ∨ b = -1 ∨ b = 0) : Sr71.turnsBy (a :: b :: c :: l) = 1 + Sr71.turnsBy (c :: l) := by
  subst hc
  rcases ha with rfl | rfl <;> rcases hb with rfl | rfl | rfl
  · rw [tb_two _ (by decide) (by decide), tb_two _ (by decide) (by decide)]; simp
  · rw [tb_two _ (by decide) (by decide), tb_two _ (by decide) (by decide)]; simp
  · have : Sr71.turnsBy (1 :: 0 :: -1 :: l) = Sr71.turnsBy (1 :: -1 :: l) := by
      unfold Sr71.turnsBy
      rw [List.filter_cons_of_pos (by decide), List.filter_cons_of_neg (by decide), List.filter_cons_of_pos (l := -1 :: l) (by decide)]
    rw [this, tb_two _ (by decide) (by decide)]; simp
  · rw [tb_two _ (by decide) (by decide), tb_two _ (by decide) (by decide)]; simp
  · rw [tb_two _ (by decide) (by decide), tb_two _ (by decide) (by decide)]; simp
  · have : Sr71.turnsBy (-1 :: 0 :: - -1 :: l) = Sr71.turnsBy (-1 :: - -1 :: l) := by
      unfold Sr71.turnsBy
      rw [List.filter_cons_of_pos (by decide), List.filter_cons_of_neg (by decide), List.filter_cons_of_pos (l := - -1 :: l) (by decide)]
    rw [this, tb_two _ (by decide) (by decide)]; simp
/-! ### chains -/
def hd : List (List Rat) → Rat → Rat
  | [], _ => 0
  | r :: _, x => rv r x
def sgs (l : List (List Rat)) (x : Rat) : List Int := l.map fun q => sg (rv q x)
def T (l : List (List Rat)) (x : Rat) : Nat := Sr71.turnsBy (sgs l x)
inductive Chn : List (List Rat) → Prop
  | one (p : List Rat) : Chn [p]
  | cons (p q : List Rat) (l : List (List Rat)) (m : List Rat) (c : Rat) (hc : 0 < c) (h : ∀ x, rv p x = rv m x * rv q x - c * hd l x) (t : Chn (q :: l)) : Chn (p :: q :: l)
/-- one of the two is not small -/
def Big (d a b : Rat) : Prop := (d ≤ a ∨ a ≤ -d) ∨ (d ≤ b ∨ b ≤ -d)
theorem T_any {p : List Rat} {l : List (List Rat)} {x : Rat} (h : sg (hd l x) ≠ 0) : T (p :: l) x = (if sg (rv p x) * sg (hd l x) < 0 then 1 else 0) + T l x := by
  cases l with
  | nil => exact absurd (sg_zero rfl) h
  | cons q l => exact tb_any _ h
theorem pos_mul_lt {c r : Rat} (hc : 0 < c) (h : 0 < c * r) : 0 < r := by
  by_cases z : 0 < r
  · exact z
  · have := Rat.mul_nonneg (Rat.le_of_lt hc) (show 0 ≤ -r by grind)
    grind
theorem neg_mul_lt {c r : Rat} (hc : 0 < c) (h : c * r < 0) : r < 0 := by
  have := pos_mul_lt hc (r := -r) (by grind)
  grind
theorem loc {L : List (List Rat)} (C : Chn L) : ∀ (p : List Rat) (rest : List (List Rat)), L = p :: rest → ∀ (R d : Rat), 0 < R → 0 < d → ∃ e, 0 < e ∧ ∀ x y, Bd R x → Bd R y → Bd e (x - y) → Big d (rv p x) (hd rest x) → Big d (rv p y) (hd rest y) →
    (Same (rv p x) (rv p y) → T (p :: rest) x = T (p :: rest) y) ∧ (¬ Same (rv p x) (rv p y) → Same (hd rest x) (hd rest y) ∧ T rest x = T rest y) := by
  induction C with
  | one p =>
    intro p' rest eL R d hR hd0
    obtain ⟨rfl, rfl⟩ := List.cons.inj eL
    obtain ⟨M, M0, hM⟩ := lip p hR
    obtain ⟨e, e0, ee⟩ := small_e (N := 2 * M) (d := d) (by grind) hd0
    refine ⟨e, e0, fun x y hx hy he bx by' => ⟨fun _ => ?_, fun ns => ?_⟩⟩
    · show Sr71.turnsBy [_] = Sr71.turnsBy [_]
      rw [tb_one, tb_one]
    · exfalso
      obtain ⟨b1, b2⟩ := not_same ns ((hM x y hx hy).2 e he)
      obtain ⟨b3, b4⟩ := b1
      unfold Big at bx
      have z : hd [] x = 0 := rfl
      rw [z] at bx
      grind
  | cons p q l m c hc h t ih =>
    intro p' rest eL R d hR hd0
    obtain ⟨rfl, rfl⟩ := List.cons.inj eL
    obtain ⟨M1, M10, hM1⟩ := lip p hR
    obtain ⟨M2, M20, hM2⟩ := lip q hR
    obtain ⟨M3, M30, hM3⟩ := lip m hR
    obtain ⟨d', d'0, ed'⟩ := small_e (N := M3 + c + 1) (d := d) (by grind) hd0
    obtain ⟨e0, e00, he0⟩ := ih q l rfl R d' hR d'0
    have m32 := Rat.mul_pos M30 M20
    obtain ⟨e1, e10, ee1⟩ := small_e (N := 2 * (M1 + M2 + M3 * M2)) (d := d) (by grind) hd0
    obtain ⟨e, ep, ea, eb⟩ := minOf e00 e10
    have k1 := Rat.mul_le_mul_of_nonneg_left eb (Rat.le_of_lt M10)
    have k2 := Rat.mul_le_mul_of_nonneg_left eb (Rat.le_of_lt M20)
    have k3 := Rat.mul_le_mul_of_nonneg_left eb (Rat.le_of_lt m32)
    have l1 := Rat.mul_pos M10 e10
    have l2 := Rat.mul_pos M20 e10
    have l3 := Rat.mul_pos m32 e10
    have s1 : M1 * e ≤ d / 2 := by grind
    have s2 : M2 * e ≤ d / 2 := by grind
    have s3 : M3 * (M2 * e) ≤ d / 2 := by grind
    have md := Rat.mul_pos M30 d'0
    have cd := Rat.mul_pos hc d'0
    have big' : ∀ x, Bd R x → Big d (rv p x) (rv q x) → Big d' (rv q x) (hd l x) := fun x hx bx => by
      refine Classical.byContradiction fun z => ?_
      have z1 : Bd d' (rv q x) := by
        unfold Big at z
        unfold Bd
        grind
      have z2 : Bd d' (hd l x) := by
        unfold Big at z
        unfold Bd
        grind
      have z3 := ((hM3 x x hx hx).1.mul z1).add ((bd_ab c).mul z2).neg
      have ea : ab c = c := by unfold ab; rw [if_pos (Rat.le_of_lt hc)]
      rw [ea] at z3
      have hx' := h x
      have e3 : rv m x * rv q x + -(c * hd l x) = rv p x := by grind
      rw [e3] at z3
      have z4 : M3 * d' + c * d' < d := by grind
      obtain ⟨a1, a2⟩ := z1
      obtain ⟨a3, a4⟩ := z3
      unfold Big at bx
      have : d' ≤ d := by grind
      have : d' < d := by grind
      grind
    refine ⟨e, ep, fun x y hx hy he bx by' => ?_⟩
    have bx : Big d (rv p x) (rv q x) := bx
    have by' : Big d (rv p y) (rv q y) := by'
    obtain ⟨i1, i2⟩ := he0 x y hx hy (he.mono ea) (big' x hx bx) (big' y hy by')
    have dp := ((hM1 x y hx hy).2 e he).mono s1
    have dq := ((hM2 x y hx hy).2 e he)
    refine ⟨fun sp => ?_, fun ns => ?_⟩
    · obtain ⟨sp1, sp2⟩ := sp.sg
      by_cases sq : Same (rv q x) (rv q y)
      · obtain ⟨sq1, sq2⟩ := sq.sg
        have sq3 : sg (rv q y) ≠ 0 := by rw [← sq1]; exact sq2
        rw [T_any (p := p) (l := q :: l) (x := x) sq2, T_any (p := p) (l := q :: l) (x := y) sq3, i1 sq]
        show (if sg (rv p x) * sg (rv q x) < 0 then 1 else 0) + _ = (if sg (rv p y) * sg (rv q y) < 0 then 1 else 0) + _
        rw [sp1, sq1]
      · obtain ⟨i3, i4⟩ := i2 sq
        obtain ⟨bq1, bq2⟩ := not_same sq dq
        cases l with
        | nil =>
          exfalso
          rcases i3 with ⟨z, _⟩ | ⟨z, _⟩
          · exact absurd z (by show ¬ (0 : Rat) < 0; decide)
          · exact absurd z (by show ¬ (0 : Rat) < 0; decide)
        | cons r l' =>
          have key : ∀ z, Bd R z → Big d (rv p z) (rv q z) → Bd (M2 * e) (rv q z) → T (p :: q :: r :: l') z = 1 + T (r :: l') z := fun z hz bz bq => by
            have b1 := ((hM3 z z hz hz).1.mul bq).mono s3
            obtain ⟨b3, b4⟩ := bq
            obtain ⟨b5, b6⟩ := b1
            have hz' : rv p z = rv m z * rv q z - c * rv r z := h z
            unfold Big at bz
            have : (0 < rv p z ∧ c * rv r z < 0) ∨ (rv p z < 0 ∧ 0 < c * rv r z) := by grind
            have gp := fun (h1 : sg (rv p z) = 1 ∨ sg (rv p z) = -1) (h2 : sg (rv r z) = -sg (rv p z)) (h3 : sg (rv q z) = 1 ∨ sg (rv q z) = -1 ∨ sg (rv q z) = 0) => tb_gap (a := sg (rv p z)) (b := sg (rv q z)) (c := sg (rv r z)) (sgs l' z) h1 h2 h3
            refine gp ?_ ?_ ?_
            · rcases this with ⟨h1, _⟩ | ⟨h1, _⟩
              · exact .inl (sg_pos h1)
              · exact .inr (sg_neg h1)
            · rcases this with ⟨h1, h2⟩ | ⟨h1, h2⟩
              · rw [sg_pos h1, sg_neg (neg_mul_lt hc h2)]
              · rw [sg_neg h1, sg_pos (pos_mul_lt hc h2)]
                rfl
            · rcases sg_cases (rv q z) with ⟨_, h⟩ | ⟨_, h⟩ | ⟨_, h⟩
              · exact .inl h
              · exact .inr (.inl h)
              · exact .inr (.inr h)
          rw [key x hx bx bq1, key y hy by' bq2, i4]
    · obtain ⟨bp1, bp2⟩ := not_same ns dp
      have sq : Same (rv q x) (rv q y) := by
        refine same_of (d := d) ?_ ?_ (dq.mono s2) (by grind)
        · obtain ⟨b1, b2⟩ := bp1
          unfold Big at bx
          grind
        · obtain ⟨b1, b2⟩ := bp2
          unfold Big at by'
          grind
      exact ⟨sq, i1 sq⟩
end Sm

/-! # Two chains of one polynomial change alike -/
namespace Sm
/-- polynomials, each out of the two ahead -/
structure Rec (P : Nat → List Rat) (a b : Nat → Rat) (j : Nat) : Prop where
  p0 : ∀ x, rv (P 0) x = 1
  d0 : ∀ x, rd (P 0) x = 0
  bp : ∀ t, 0 < b t
  r1 : 1 ≤ j → ∀ x, rv (P 1) x = x - a 0
  d1 : 1 ≤ j → ∀ x, rd (P 1) x = 1
  r2 : ∀ t, t + 2 ≤ j → ∀ x, rv (P (t + 2)) x = (x - a (t + 1)) * rv (P (t + 1)) x - b (t + 1) * rv (P t) x
  d2 : ∀ t, t + 2 ≤ j → ∀ x, rd (P (t + 2)) x = rv (P (t + 1)) x + (x - a (t + 1)) * rd (P (t + 1)) x - b (t + 1) * rd (P t) x
def Kn (P : Nat → List Rat) (b : Nat → Rat) : Nat → Rat → Rat → Rat
  | 0, _, _ => 0
  | t + 1, x, y => rv (P t) x * rv (P t) y + b t * Kn P b t x y
def Bl (P : Nat → List Rat) : Nat → List (List Rat)
  | 0 => [P 0]
  | t + 1 => P (t + 1) :: Bl P t
theorem hd_Bl (P : Nat → List Rat) (t : Nat) (x : Rat) : hd (Bl P t) x = rv (P t) x := by cases t <;> rfl
section
variable {P : Nat → List Rat} {a b : Nat → Rat} {j : Nat}
theorem Rec.wr (h : Rec P a b j) : ∀ t, t + 1 ≤ j → ∀ x y, rv (P (t + 1)) y * rv (P t) x - rv (P t) y * rv (P (t + 1)) x = (y - x) * Kn P b (t + 1) x y
  | 0, ht, x, y => by
    show _ = (y - x) * (rv (P 0) x * rv (P 0) y + b 0 * 0)
    rw [h.r1 ht, h.r1 ht, h.p0, h.p0]
    grind
  | t + 1, ht, x, y => by
    have ih := h.wr t (by omega) x y
    show _ = (y - x) * (rv (P (t + 1)) x * rv (P (t + 1)) y + b (t + 1) * Kn P b (t + 1) x y)
    rw [h.r2 t ht, h.r2 t ht]
    grind
theorem Rec.cf (h : Rec P a b j) : ∀ t, t + 1 ≤ j → ∀ x, rd (P (t + 1)) x * rv (P t) x - rd (P t) x * rv (P (t + 1)) x = Kn P b (t + 1) x x
  | 0, ht, x => by
    show _ = rv (P 0) x * rv (P 0) x + b 0 * 0
    rw [h.r1 ht, h.d1 ht, h.p0, h.d0]
    grind
  | t + 1, ht, x => by
    have ih := h.cf t (by omega) x
    show _ = rv (P (t + 1)) x * rv (P (t + 1)) x + b (t + 1) * Kn P b (t + 1) x x
    rw [h.r2 t ht, h.d2 t ht]
    grind
theorem sq_nonneg (a : Rat) : 0 ≤ a * a := by
  by_cases c : 0 ≤ a
  · exact Rat.mul_nonneg c c
  · have := Rat.mul_nonneg (show 0 ≤ -a by grind) (show 0 ≤ -a by grind)
    grind
theorem Rec.kpos (h : Rec P a b j) {R : Rat} (hR : 0 < R) : ∀ t, t ≤ j → ∃ e k, 0 < e ∧ 0 < k ∧ ∀ x y, Bd R x → Bd R y → Bd e (x - y) → k ≤ Kn P b (t + 1) x y
  | 0, _ => by
    refine ⟨1, 1, by decide, by decide, fun x y _ _ _ => ?_⟩
    show 1 ≤ rv (P 0) x * rv (P 0) y + b 0 * 0
    rw [h.p0, h.p0]
    grind
  | t + 1, ht => by
    obtain ⟨e, k, e0, k0, hk⟩ := h.kpos hR t (by omega)
    obtain ⟨M, M0, hM⟩ := lip (P (t + 1)) hR
    have bk := Rat.mul_pos (h.bp (t + 1)) k0
    have mm := Rat.mul_pos M0 M0
    obtain ⟨e1, e10, ee1⟩ := small_e (N := 2 * (M * M)) (d := b (t + 1) * k) (by grind) bk
    obtain ⟨e', ep, ea, eb⟩ := minOf e0 e10
    refine ⟨e', b (t + 1) * k / 2, ep, by grind, fun x y hx hy he => ?_⟩
    have h1 := Rat.mul_le_mul_of_nonneg_left (hk x y hx hy (he.mono ea)) (Rat.le_of_lt (h.bp (t + 1)))
    obtain ⟨m1, m2⟩ := hM x y hx hy
    obtain ⟨m3, m4⟩ := m1.mul (m2 e' he)
    have m5 := Rat.mul_le_mul_of_nonneg_left eb (Rat.le_of_lt mm)
    have sq := sq_nonneg (rv (P (t + 1)) x)
    show b (t + 1) * k / 2 ≤ rv (P (t + 1)) x * rv (P (t + 1)) y + b (t + 1) * Kn P b (t + 1) x y
    grind
theorem Rec.chn (h : Rec P a b j) : ∀ t, t ≤ j → Chn (Bl P t)
  | 0, _ => .one _
  | 1, ht => .cons (P 1) (P 0) [] [-a 0, 1] 1 (by decide) (fun x => by
      rw [h.r1 ht, h.p0]
      show x - a 0 = (-a 0 + x * (1 + x * 0)) * 1 - 1 * 0
      grind) (.one _)
  | t + 2, ht => .cons (P (t + 2)) (P (t + 1)) (Bl P t) [-a (t + 1), 1] (b (t + 1)) (h.bp _) (fun x => by
      rw [h.r2 t ht, hd_Bl]
      show _ = (-a (t + 1) + x * (1 + x * 0)) * _ - _
      grind) (h.chn (t + 1) (by omega))
theorem big_scale {g d a b : Rat} (hg : g ≠ 0) (h : Big d a b) : Big (ab g * d) (g * a) (g * b) := by
  have one : ∀ {a : Rat}, (d ≤ a ∨ a ≤ -d) → (ab g * d ≤ g * a ∨ g * a ≤ -(ab g * d)) := fun {a} h => by
    unfold ab
    by_cases c : 0 ≤ g
    · rw [if_pos c]
      rcases h with h | h
      · exact .inl (Rat.mul_le_mul_of_nonneg_left h c)
      · have := Rat.mul_le_mul_of_nonneg_left h c
        exact .inr (by grind)
    · rw [if_neg c]
      have c' : 0 ≤ -g := by grind
      rcases h with h | h
      · have := Rat.mul_le_mul_of_nonneg_left h c'
        exact .inr (by grind)
      · have := Rat.mul_le_mul_of_nonneg_left h c'
        exact .inl (by grind)
  rcases h with h | h
  · exact .inl (one h)
  · exact .inr (one h)
theorem same_scale {g a b : Rat} (hg : g ≠ 0) : Same (g * a) (g * b) ↔ Same a b := by
  have up : ∀ {g a b : Rat}, g ≠ 0 → Same a b → Same (g * a) (g * b) := fun {g a b} hg h => by
    by_cases c : 0 < g
    · rcases h with ⟨h1, h2⟩ | ⟨h1, h2⟩
      · exact .inl ⟨Rat.mul_pos c h1, Rat.mul_pos c h2⟩
      · have := Rat.mul_pos c (show 0 < -a by grind)
        have := Rat.mul_pos c (show 0 < -b by grind)
        exact .inr ⟨by grind, by grind⟩
    · have c' : 0 < -g := by grind
      rcases h with ⟨h1, h2⟩ | ⟨h1, h2⟩
      · have := Rat.mul_pos c' h1
        have := Rat.mul_pos c' h2
        exact .inr ⟨by grind, by grind⟩
      · have := Rat.mul_pos c' (show 0 < -a by grind)
        have := Rat.mul_pos c' (show 0 < -b by grind)
        exact .inl ⟨by grind, by grind⟩
  refine ⟨fun h => ?_, up hg⟩
  have h2 := up (g := 1 / g) (by grind) h
  have e1 : 1 / g * (g * a) = a := by grind
  have e2 : 1 / g * (g * b) = b := by grind
  rwa [e1, e2] at h2
/-- the signs' product of two that are scaled alike -/
theorem sg_mul (a b : Rat) : sg (a * b) = sg a * sg b := by
  rcases sg_cases a with ⟨h1, e1⟩ | ⟨h1, e1⟩ | ⟨h1, e1⟩ <;> rcases sg_cases b with ⟨h2, e2⟩ | ⟨h2, e2⟩ | ⟨h2, e2⟩ <;> rw [e1, e2]
  · exact sg_pos (Rat.mul_pos h1 h2)
  · have := Rat.mul_pos h1 (show 0 < -b by grind)
    exact sg_neg (by grind)
  · exact sg_zero (by grind)
  · have := Rat.mul_pos (show 0 < -a by grind) h2
    exact sg_neg (by grind)
  · have := Rat.mul_pos (show 0 < -a by grind) (show 0 < -b by grind)
    exact sg_pos (by grind)
  · exact sg_zero (by grind)
  · exact sg_zero (by grind)
  · exact sg_zero (by grind)
  · exact sg_zero (by grind)
/-- near one another: the two chains' turns change alike, and the one's don't rise -/
theorem Rec.near {n : Nat} (h : Rec P a b (n + 1)) {a0 : List Rat} {A' : List (List Rat)} (CA : Chn (a0 :: A')) {g : Rat} (hg : g ≠ 0) (ha0 : ∀ x, rv a0 x = g * rv (P (n + 1)) x) (ha1 : ∀ x, hd A' x = g * rd (P (n + 1)) x) {R : Rat} (hR : 0 < R) :
    ∃ e, 0 < e ∧ ∀ x y, Bd R x → Bd R y → Bd e (x - y) → (T (a0 :: A') x : Int) - T (Bl P (n + 1)) x = (T (a0 :: A') y : Int) - T (Bl P (n + 1)) y ∧ (x ≤ y → T (Bl P (n + 1)) y ≤ T (Bl P (n + 1)) x) := by
  obtain ⟨e1, k, e10, k0, hk⟩ := h.kpos hR n (by omega)
  obtain ⟨M1, M10, hM1⟩ := lip (P (n + 1)) hR
  obtain ⟨M2, M20, hM2⟩ := lip (P n) hR
  obtain ⟨M3, M30, hM3⟩ := lipD (P (n + 1)) hR
  obtain ⟨M4, M40, hM4⟩ := lipD (P n) hR
  obtain ⟨d, d0, ed⟩ := small_e (N := 2 * (M2 + M3 + M4)) (d := k) (by grind) k0
  have md2 := Rat.mul_pos M20 d0
  have md3 := Rat.mul_pos M30 d0
  have md4 := Rat.mul_pos M40 d0
  have cf := h.cf n (by omega)
  have kxx : ∀ x, Bd R x → k ≤ rd (P (n + 1)) x * rv (P n) x - rd (P n) x * rv (P (n + 1)) x := fun x hx => by
    rw [cf x]
    refine hk x x hx hx ⟨?_, ?_⟩ <;> grind
  have bigA : ∀ x, Bd R x → Big d (rv (P (n + 1)) x) (rd (P (n + 1)) x) := fun x hx => by
    refine Classical.byContradiction fun z => ?_
    have z1 : Bd d (rv (P (n + 1)) x) := by unfold Big at z; unfold Bd; grind
    have z2 : Bd d (rd (P (n + 1)) x) := by unfold Big at z; unfold Bd; grind
    obtain ⟨_, u1⟩ := z2.mul (hM2 x x hx hx).1
    obtain ⟨u2, _⟩ := (hM4 x hx).mul z1
    have := kxx x hx
    grind
  have bigB : ∀ x, Bd R x → Big d (rv (P (n + 1)) x) (rv (P n) x) := fun x hx => by
    refine Classical.byContradiction fun z => ?_
    have z1 : Bd d (rv (P (n + 1)) x) := by unfold Big at z; unfold Bd; grind
    have z2 : Bd d (rv (P n) x) := by unfold Big at z; unfold Bd; grind
    obtain ⟨_, u1⟩ := (hM3 x hx).mul z2
    obtain ⟨u2, _⟩ := (hM4 x hx).mul z1
    have := kxx x hx
    grind
  have agp : 0 < ab g := by
    unfold ab
    by_cases c : 0 ≤ g
    · rw [if_pos c]; grind
    · rw [if_neg c]; grind
  obtain ⟨eA, eA0, hA⟩ := loc CA a0 A' rfl R (ab g * d) hR (Rat.mul_pos agp d0)
  obtain ⟨eB, eB0, hB⟩ := loc (h.chn (n + 1) (Nat.le_refl _)) (P (n + 1)) (Bl P n) rfl R d hR d0
  have m41 := Rat.mul_pos M40 M10
  obtain ⟨e2, e20, ee2⟩ := small_e (N := 2 * (M4 * M1)) (d := k) (by grind) k0
  obtain ⟨e3, e30, e31, e32⟩ := minOf e10 e20
  obtain ⟨e4, e40, e41, e42⟩ := minOf eA0 eB0
  obtain ⟨e, ep, ea, eb⟩ := minOf e30 e40
  refine ⟨e, ep, fun x y hx hy he => ?_⟩
  have eA' : Bd eA (x - y) := he.mono (by grind)
  have eB' : Bd eB (x - y) := he.mono (by grind)
  have bA : ∀ z, Bd R z → Big (ab g * d) (rv a0 z) (hd A' z) := fun z hz => by
    rw [ha0, ha1]
    exact big_scale hg (bigA z hz)
  have bB : ∀ z, Bd R z → Big d (rv (P (n + 1)) z) (hd (Bl P n) z) := fun z hz => by
    rw [hd_Bl]
    exact bigB z hz
  obtain ⟨A1, A2⟩ := hA x y hx hy eA' (bA x hx) (bA y hy)
  obtain ⟨B1, B2⟩ := hB x y hx hy eB' (bB x hx) (bB y hy)
  by_cases sp : Same (rv (P (n + 1)) x) (rv (P (n + 1)) y)
  · have t1 := A1 (by rw [ha0, ha0]; exact (same_scale hg).mpr sp)
    have t2 : T (Bl P (n + 1)) x = T (Bl P (n + 1)) y := B1 sp
    rw [t1, t2]
    exact ⟨rfl, fun _ => Nat.le_refl _⟩
  · obtain ⟨a1, a2⟩ := A2 (by rw [ha0, ha0]; exact fun z => sp ((same_scale hg).mp z))
    obtain ⟨b1, b2⟩ := B2 sp
    rw [ha1, ha1] at a1
    rw [hd_Bl, hd_Bl] at b1
    obtain ⟨pp1, pp2⟩ := not_same sp ((hM1 x y hx hy).2 e he)
    have me := Rat.mul_le_mul_of_nonneg_left (show e ≤ e2 by grind) (Rat.le_of_lt m41)
    have agree : ∀ z, Bd R z → Bd (M1 * e) (rv (P (n + 1)) z) → 0 < rd (P (n + 1)) z * rv (P n) z := fun z hz bz => by
      obtain ⟨u1, u2⟩ := (hM4 z hz).mul bz
      have := kxx z hz
      grind
    have TA : ∀ z, Bd R z → Bd (M1 * e) (rv (P (n + 1)) z) → T (a0 :: A') z = (if sg (rv (P (n + 1)) z) * sg (rv (P n) z) < 0 then 1 else 0) + T A' z := fun z hz bz => by
      have ag := sg_pos (agree z hz bz)
      rw [sg_mul] at ag
      have n1 : sg (rd (P (n + 1)) z) ≠ 0 := fun w => by rw [w] at ag; simp at ag
      have gg : sg g ≠ 0 := by
        rcases sg_cases g with ⟨_, w⟩ | ⟨_, w⟩ | ⟨w, _⟩
        · rw [w]; decide
        · rw [w]; decide
        · exact absurd w hg
      have hs : sg (hd A' z) = sg g * sg (rd (P (n + 1)) z) := by rw [ha1, sg_mul]
      rw [T_any (by rw [hs]; exact Int.mul_ne_zero gg n1), hs, ha0, sg_mul]
      congr 1
      have e1 : sg (rd (P (n + 1)) z) = sg (rv (P n) z) := by
        rcases sg_cases (rd (P (n + 1)) z) with ⟨_, w⟩ | ⟨_, w⟩ | ⟨_, w⟩ <;> rcases sg_cases (rv (P n) z) with ⟨_, w2⟩ | ⟨_, w2⟩ | ⟨_, w2⟩ <;> rw [w, w2] at ag ⊢ <;> simp at ag
      have e2 : sg g * sg g = 1 := by
        rcases sg_cases g with ⟨_, w⟩ | ⟨_, w⟩ | ⟨w, _⟩
        · rw [w]; decide
        · rw [w]; decide
        · exact absurd w hg
      have e3 : sg g * sg (rv (P (n + 1)) z) * (sg g * sg (rd (P (n + 1)) z)) = sg (rv (P (n + 1)) z) * sg (rv (P n) z) := by
        rw [e1]
        have : sg g * sg (rv (P (n + 1)) z) * (sg g * sg (rv (P n) z)) = (sg g * sg g) * (sg (rv (P (n + 1)) z) * sg (rv (P n) z)) := by grind
        rw [this, e2, Int.one_mul]
      rw [e3]
    have TB : ∀ z, sg (rv (P n) z) ≠ 0 → T (Bl P (n + 1)) z = (if sg (rv (P (n + 1)) z) * sg (rv (P n) z) < 0 then 1 else 0) + T (Bl P n) z := fun z hz => by
      show T (P (n + 1) :: Bl P n) z = _
      rw [T_any (by rw [hd_Bl]; exact hz), hd_Bl]
    obtain ⟨sb1, sb2⟩ := b1.sg
    have sb3 : sg (rv (P n) y) ≠ 0 := by rw [← sb1]; exact sb2
    rw [TA x hx pp1, TA y hy pp2, TB x sb2, TB y sb3, a2, b2]
    refine ⟨by omega, fun hxy => ?_⟩
    have hw := h.wr n (by omega) x y
    have kk := hk x y hx hy (he.mono (by grind))
    have wpos : 0 ≤ (y - x) * Kn P b (n + 1) x y := Rat.mul_nonneg (by grind) (by grind)
    by_cases c : sg (rv (P (n + 1)) y) * sg (rv (P n) y) < 0
    · have c2 : sg (rv (P (n + 1)) x) * sg (rv (P n) x) < 0 := by
        refine Classical.byContradiction fun nc => ?_
        rcases b1 with ⟨q1, q2⟩ | ⟨q1, q2⟩
        · rw [sg_pos q1] at nc
          rw [sg_pos q2] at c
          have u1 : rv (P (n + 1)) y < 0 := by
            rcases sg_cases (rv (P (n + 1)) y) with ⟨_, w⟩ | ⟨w1, w⟩ | ⟨_, w⟩
            · rw [w] at c; exact absurd c (by decide)
            · exact w1
            · rw [w] at c; exact absurd c (by decide)
          have u2 : 0 ≤ rv (P (n + 1)) x := by
            rcases sg_cases (rv (P (n + 1)) x) with ⟨w1, w⟩ | ⟨w1, w⟩ | ⟨w1, w⟩
            · grind
            · rw [w] at nc; exact absurd (by decide) nc
            · grind
          have v1 := Rat.mul_pos (show 0 < -rv (P (n + 1)) y by grind) q1
          have v2 := Rat.mul_nonneg (Rat.le_of_lt q2) u2
          grind
        · rw [sg_neg q1] at nc
          rw [sg_neg q2] at c
          have u1 : 0 < rv (P (n + 1)) y := by
            rcases sg_cases (rv (P (n + 1)) y) with ⟨w1, w⟩ | ⟨w1, w⟩ | ⟨_, w⟩
            · exact w1
            · rw [w] at c; exact absurd c (by decide)
            · rw [w] at c; exact absurd c (by decide)
          have u2 : rv (P (n + 1)) x ≤ 0 := by
            rcases sg_cases (rv (P (n + 1)) x) with ⟨w1, w⟩ | ⟨w1, w⟩ | ⟨w1, w⟩
            · rw [w] at nc; exact absurd (by decide) nc
            · grind
            · grind
          have v1 := Rat.mul_pos u1 (show 0 < -rv (P n) x by grind)
          have v2 := Rat.mul_nonneg (show 0 ≤ -rv (P n) y by grind) (show 0 ≤ -rv (P (n + 1)) x by grind)
          grind
      rw [if_pos c, if_pos c2]
      exact Nat.le_refl _
    · rw [if_neg c]
      omega
/-- and so everywhere -/
theorem Rec.far {n : Nat} (h : Rec P a b (n + 1)) {a0 : List Rat} {A' : List (List Rat)} (CA : Chn (a0 :: A')) {g : Rat} (hg : g ≠ 0) (ha0 : ∀ x, rv a0 x = g * rv (P (n + 1)) x) (ha1 : ∀ x, hd A' x = g * rd (P (n + 1)) x) {x y : Rat} (hxy : x ≤ y) :
    (T (a0 :: A') x : Int) - T (Bl P (n + 1)) x = (T (a0 :: A') y : Int) - T (Bl P (n + 1)) y ∧ T (Bl P (n + 1)) y ≤ T (Bl P (n + 1)) x := by
  have ax := ab_nonneg x
  have ay := ab_nonneg y
  have hR : 0 < ab x + ab y + 1 := by grind
  obtain ⟨e, e0, he⟩ := h.near CA hg ha0 ha1 hR
  obtain ⟨x1, x2⟩ := bd_ab x
  obtain ⟨y1, y2⟩ := bd_ab y
  have key : ∀ (m : Nat) (z : Rat), x ≤ z → z ≤ y → z - x ≤ (m : Rat) * e → (T (a0 :: A') x : Int) - T (Bl P (n + 1)) x = (T (a0 :: A') z : Int) - T (Bl P (n + 1)) z ∧ T (Bl P (n + 1)) z ≤ T (Bl P (n + 1)) x := by
    intro m
    induction m with
    | zero =>
      intro z h1 h2 h3
      have : z = x := by
        have : ((0 : Nat) : Rat) * e = 0 := by
          show (0 : Rat) * e = 0
          grind
        grind
      rw [this]
      exact ⟨rfl, Nat.le_refl _⟩
    | succ m ih =>
      intro z h1 h2 h3
      have bz : Bd (ab x + ab y + 1) z := ⟨by grind, by grind⟩
      by_cases c : z - x ≤ e
      · obtain ⟨r1, r2⟩ := he x z ⟨by grind, by grind⟩ bz ⟨by grind, by grind⟩
        exact ⟨r1, r2 h1⟩
      · have cm : ((m + 1 : Nat) : Rat) = (m : Rat) + 1 := by push_cast; rfl
        rw [cm] at h3
        obtain ⟨i1, i2⟩ := ih (z - e) (by grind) (by grind) (by grind)
        obtain ⟨r1, r2⟩ := he (z - e) z ⟨by grind, by grind⟩ bz ⟨by grind, by grind⟩
        exact ⟨i1.trans r1, Nat.le_trans (r2 (by grind)) i2⟩
  have arch : ∃ m : Nat, y - x ≤ (m : Rat) * e := by
    refine ⟨((y - x) / e).ceil.toNat, ?_⟩
    have h1 : (y - x) / e ≤ (((y - x) / e).ceil.toNat : Rat) := by
      refine Rat.le_trans Rat.le_ceil ?_
      have : ((y - x) / e).ceil ≤ (((y - x) / e).ceil.toNat : Int) := by omega
      have h2 : (((y - x) / e).ceil : Rat) ≤ ((((y - x) / e).ceil.toNat : Int) : Rat) := by exact_mod_cast this
      exact h2
    have h2 := Rat.mul_le_mul_of_nonneg_left h1 (Rat.le_of_lt e0)
    have h3 : e * ((y - x) / e) = y - x := by grind
    rw [h3] at h2
    grind
  obtain ⟨m, hm⟩ := arch
  exact key m y hxy Rat.le_refl hm
end
end Sm

/-! # The specification's chain -/
namespace Sm
open Sr58 (Frac frac plus times whole total)
open Sr66 (minus over zero neg)
/-! ### lists of factors -/
abbrev vl (p : List Frac) : List Rat := p.map val
theorem rv_ev (p : List Frac) (x : Rat) : rv (vl p) x = ev p x := by
  induction p with
  | nil => rfl
  | cons c l ih =>
    show val c + x * rv (vl l) x = val c + x * ev l x
    rw [ih]
theorem getD_vl (p : List Frac) (i : Nat) : (vl p).getD i 0 = co p i := by
  unfold co
  rw [List.getD_eq_getElem?_getD, List.getD_eq_getElem?_getD, List.getElem?_map]
  cases p[i]? with
  | none => exact val_zero.symm
  | some c => rfl
theorem signOf_is {q : List Frac} {x : Frac} (hq : NfL q) (hx : Nf x) : Sr71.signOf (Sr71.valueAt q x) = sg (rv (vl q) (val x)) := by
  obtain ⟨h1, h2⟩ := val_value hx q hq
  rw [rv_ev, ← h2]
  unfold Sr71.signOf sg
  have l := val_lt_zero h1
  have p := val_pos h1
  by_cases c : (Sr71.valueAt q x).n < 0
  · rw [if_pos c, if_pos (l.mpr c)]
  · rw [if_neg c, if_neg (fun z => c (l.mp z))]
    by_cases c2 : 0 < (Sr71.valueAt q x).n
    · rw [if_pos c2, if_pos (p.mpr c2)]
    · rw [if_neg c2, if_neg (fun z => c2 (p.mp z))]
theorem rv_zeros : ∀ (l : List Rat), (∀ m, l.getD m 0 = 0) → ∀ x, rv l x = 0 ∧ rd l x = 0
  | [], _, _ => ⟨rfl, rfl⟩
  | c :: l, h, x => by
    obtain ⟨h1, h2⟩ := rv_zeros l (fun m => h (m + 1)) x
    have h0 : c = 0 := h 0
    refine ⟨?_, ?_⟩
    · show c + x * rv l x = 0
      rw [h1, h0]
      grind
    · show rv l x + x * rd l x = 0
      rw [h1, h2]
      grind
theorem rv_ext : ∀ (p q : List Rat), (∀ m, p.getD m 0 = q.getD m 0) → ∀ x, rv p x = rv q x ∧ rd p x = rd q x
  | [], q, h, x => by
    obtain ⟨h1, h2⟩ := rv_zeros q (fun m => (h m).symm) x
    exact ⟨h1.symm, h2.symm⟩
  | c :: p, [], h, x => rv_zeros (c :: p) (fun m => h m) x
  | c :: p, d :: q, h, x => by
    obtain ⟨h1, h2⟩ := rv_ext p q (fun m => h (m + 1)) x
    have h0 : c = d := h 0
    refine ⟨?_, ?_⟩
    · show c + x * rv p x = d + x * rv q x
      rw [h1, h0]
    · show rv p x + x * rd p x = rv q x + x * rd q x
      rw [h1, h2]
def addL : List Rat → List Rat → List Rat
  | [], q => q
  | a :: p, [] => a :: p
  | a :: p, b :: q => (a + b) :: addL p q
theorem rv_addL : ∀ (p q : List Rat) (x : Rat), rv (addL p q) x = rv p x + rv q x ∧ rd (addL p q) x = rd p x + rd q x
  | [], q, x => ⟨by show rv q x = 0 + rv q x; grind, by show rd q x = 0 + rd q x; grind⟩
  | a :: p, [], x => ⟨by show rv (a :: p) x = rv (a :: p) x + 0; grind, by show rd (a :: p) x = rd (a :: p) x + 0; grind⟩
  | a :: p, b :: q, x => by
    obtain ⟨h1, h2⟩ := rv_addL p q x
    refine ⟨?_, ?_⟩
    · show a + b + x * rv (addL p q) x = a + x * rv p x + (b + x * rv q x)
      rw [h1]
      grind
    · show rv (addL p q) x + x * rd (addL p q) x = rv p x + x * rd p x + (rv q x + x * rd q x)
      rw [h1, h2]
      grind
theorem getD_addL : ∀ (p q : List Rat) (m : Nat), (addL p q).getD m 0 = p.getD m 0 + q.getD m 0
  | [], q, m => by show q.getD m 0 = 0 + q.getD m 0; grind
  | a :: p, [], m => by show (a :: p).getD m 0 = (a :: p).getD m 0 + 0; grind
  | a :: p, b :: q, 0 => rfl
  | a :: p, b :: q, m + 1 => getD_addL p q m
def smL (c : Rat) (l : List Rat) : List Rat := l.map (c * ·)
theorem rv_smL (c : Rat) : ∀ (l : List Rat) (x : Rat), rv (smL c l) x = c * rv l x ∧ rd (smL c l) x = c * rd l x
  | [], x => ⟨by show (0 : Rat) = c * 0; grind, by show (0 : Rat) = c * 0; grind⟩
  | a :: l, x => by
    obtain ⟨h1, h2⟩ := rv_smL c l x
    refine ⟨?_, ?_⟩
    · show c * a + x * rv (smL c l) x = c * (a + x * rv l x)
      rw [h1]
      grind
    · show rv (smL c l) x + x * rd (smL c l) x = c * (rv l x + x * rd l x)
      rw [h1, h2]
      grind
theorem getD_smL (c : Rat) : ∀ (l : List Rat) (m : Nat), (smL c l).getD m 0 = c * l.getD m 0
  | [], m => by show (0 : Rat) = c * 0; grind
  | a :: l, 0 => rfl
  | a :: l, m + 1 => getD_smL c l m
/-- the slope -/
def dl : List Rat → List Rat
  | [] => []
  | _ :: l => addL l (0 :: dl l)
theorem rv_dl : ∀ (l : List Rat) (x : Rat), rv (dl l) x = rd l x
  | [], _ => rfl
  | c :: l, x => by
    show rv (addL l (0 :: dl l)) x = rv l x + x * rd l x
    rw [(rv_addL _ _ x).1, ← rv_dl l x]
    show rv l x + (0 + x * rv (dl l) x) = _
    grind
theorem getD_dl : ∀ (l : List Rat) (i : Nat), (dl l).getD i 0 = ((i + 1 : Nat) : Rat) * l.getD (i + 1) 0
  | [], i => by show (0 : Rat) = _ * 0; grind
  | c :: l, i => by
    show (addL l (0 :: dl l)).getD i 0 = ((i + 1 : Nat) : Rat) * l.getD i 0
    rw [getD_addL]
    cases i with
    | zero =>
      show l.getD 0 0 + 0 = ((1 : Nat) : Rat) * l.getD 0 0
      have : ((1 : Nat) : Rat) = 1 := rfl
      rw [this]
      grind
    | succ i =>
      show l.getD (i + 1) 0 + (dl l).getD i 0 = _
      rw [getD_dl l i]
      have : ((i + 1 + 1 : Nat) : Rat) = ((i + 1 : Nat) : Rat) + 1 := by push_cast; rfl
      rw [this]
      grind
theorem slope_len (p : List Frac) : (Sr71.slope p).length = p.length - 1 := by simp [Sr71.slope]
theorem slope_at (p : List Frac) (i : Nat) : (Sr71.slope p)[i]? = (p[i + 1]?).map fun y => times y (whole ((i + 1 : Nat) : Int)) := by
  unfold Sr71.slope
  rw [List.getElem?_tail, List.getElem?_map, List.getElem?_zipIdx]
  cases p[i + 1]? with
  | none => rfl
  | some c => simp
theorem slope_nf {p : List Frac} (hp : NfL p) : NfL (Sr71.slope p) := by
  intro y hy
  obtain ⟨i, hi, rfl⟩ := List.mem_iff_getElem.mp hy
  have e := slope_at p i
  rw [List.getElem?_eq_getElem hi] at e
  cases h : p[i + 1]? with
  | none => rw [h] at e; cases e
  | some c =>
    rw [h] at e
    rw [Option.some.inj e]
    exact nf_times (hp c (List.mem_of_getElem? h)) (nf_whole _)
theorem co_slope {p : List Frac} (hp : NfL p) (i : Nat) : co (Sr71.slope p) i = ((i + 1 : Nat) : Rat) * co p (i + 1) := by
  unfold co
  rw [List.getD_eq_getElem?_getD, List.getD_eq_getElem?_getD, slope_at]
  cases h : p[i + 1]? with
  | none =>
    show val zero = _ * val zero
    rw [val_zero]
    grind
  | some c =>
    show val (times c (whole ((i + 1 : Nat) : Int))) = _ * val c
    rw [val_times (hp c (List.mem_of_getElem? h)) (nf_whole _), val_whole]
    have : (((i + 1 : Nat) : Int) : Rat) = ((i + 1 : Nat) : Rat) := rfl
    rw [this]
    grind
theorem rv_slope {p : List Frac} (hp : NfL p) (x : Rat) : rv (vl (Sr71.slope p)) x = rd (vl p) x := by
  rw [← rv_dl]
  refine (rv_ext _ _ (fun m => ?_) x).1
  rw [getD_vl, co_slope hp, getD_dl, getD_vl]
/-! ### trim -/
/-- the last one isn't 0 -/
def Trm (p : List Frac) : Prop := ∀ c, p.getLast? = some c → c.n ≠ 0
theorem trim_parts (p : List Frac) : ∃ zs, p = Sr71.trim p ++ zs ∧ ∀ z ∈ zs, z.n = 0 := by
  refine ⟨(p.reverse.takeWhile fun x => x.n == 0).reverse, ?_, fun z hz => ?_⟩
  · unfold Sr71.trim
    rw [← List.reverse_append, List.takeWhile_append_dropWhile, List.reverse_reverse]
  · have := List.all_eq_true.mp (List.all_takeWhile (p := fun x : Frac => x.n == 0) (l := p.reverse)) z (List.mem_reverse.mp hz)
    simpa using this
theorem trim_trm (p : List Frac) : Trm (Sr71.trim p) := by
  intro c hc
  unfold Sr71.trim at hc
  rw [List.getLast?_reverse] at hc
  have := List.head?_dropWhile_not (fun x : Frac => x.n == 0) p.reverse
  rw [hc] at this
  simpa using this
theorem trim_nf {p : List Frac} (hp : NfL p) : NfL (Sr71.trim p) := by
  obtain ⟨zs, e, _⟩ := trim_parts p
  intro y hy
  exact hp y (by rw [e]; exact List.mem_append_left _ hy)
theorem co_trim {p : List Frac} (hp : NfL p) (i : Nat) : co (Sr71.trim p) i = co p i := by
  obtain ⟨zs, e, hz⟩ := trim_parts p
  by_cases c : i < (Sr71.trim p).length
  · unfold co
    rw [List.getD_eq_getElem?_getD, List.getD_eq_getElem?_getD]
    conv => rhs; rw [e, List.getElem?_append_left c]
  · rw [co_ge (by omega)]
    unfold co
    rw [List.getD_eq_getElem?_getD]
    conv => rhs; rw [e, List.getElem?_append_right (by omega)]
    cases h : zs[i - (Sr71.trim p).length]? with
    | none => exact val_zero.symm
    | some z =>
      have hm := List.mem_of_getElem? h
      have n : Nf z := hp z (by rw [e]; exact List.mem_append_right _ hm)
      exact ((val_eq_zero n).mpr (hz z hm)).symm
theorem trim_len (p : List Frac) : (Sr71.trim p).length ≤ p.length := by
  obtain ⟨zs, e, _⟩ := trim_parts p
  have := congrArg List.length e
  rw [List.length_append] at this
  omega
theorem trim_id {p : List Frac} (h : Trm p) : Sr71.trim p = p := by
  obtain ⟨zs, e, hz⟩ := trim_parts p
  cases hl : zs.getLast? with
  | none =>
    rw [List.getLast?_eq_none_iff] at hl
    rw [hl, List.append_nil] at e
    exact e.symm
  | some z =>
    exfalso
    have : p.getLast? = some z := by
      rw [e, List.getLast?_append, hl]
      rfl
    exact h z this (hz z (List.mem_of_getLast? hl))
theorem trim_less {p : List Frac} (hp : NfL p) {n : Nat} (h : ∀ i, n ≤ i → co p i = 0) : (Sr71.trim p).length ≤ n := by
  refine Classical.byContradiction fun z => ?_
  have ht := trim_trm p
  cases hl : (Sr71.trim p).getLast? with
  | none =>
    rw [List.getLast?_eq_none_iff] at hl
    rw [hl] at z
    simp at z
  | some c =>
    have hn := ht c hl
    have e : (Sr71.trim p)[(Sr71.trim p).length - 1]? = some c := by rw [← List.getLast?_eq_getElem?]; exact hl
    have := h ((Sr71.trim p).length - 1) (by omega)
    rw [← co_trim hp] at this
    unfold co at this
    rw [List.getD_eq_getElem?_getD, e] at this
    exact hn ((val_eq_zero (trim_nf hp c (List.mem_of_getElem? e))).mp this)
theorem rv_trim {p : List Frac} (hp : NfL p) (x : Rat) : rv (vl (Sr71.trim p)) x = rv (vl p) x := by
  refine (rv_ext _ _ (fun m => ?_) x).1
  rw [getD_vl, getD_vl, co_trim hp]
end Sm

/-! # What's left of one by another; the chain; what's single -/
namespace Sm
open Sr58 (Frac frac plus times whole total)
open Sr66 (minus over zero neg)
def pw (x : Rat) : Nat → Rat
  | 0 => 1
  | k + 1 => x * pw x k
theorem rv_shift (l : List Rat) (x : Rat) : ∀ k, rv (List.replicate k 0 ++ l) x = pw x k * rv l x
  | 0 => by show rv l x = 1 * rv l x; grind
  | k + 1 => by
    show 0 + x * rv (List.replicate k 0 ++ l) x = x * pw x k * rv l x
    rw [rv_shift l x k]
    grind
theorem getD_shift (l : List Rat) (k i : Nat) : (List.replicate k 0 ++ l).getD i 0 = if i < k then 0 else l.getD (i - k) 0 := by
  rw [List.getD_eq_getElem?_getD]
  by_cases c : i < k
  · rw [if_pos c, List.getElem?_append_left (by simpa using c), List.getElem?_replicate, if_pos c]
    rfl
  · rw [if_neg c, List.getElem?_append_right (by simp; omega), List.getD_eq_getElem?_getD]
    simp
def rstep (p q : List Frac) : List Frac := p.zipIdx.map fun y => if y.2 < p.length - q.length then y.1 else minus y.1 (times (over (p.getLastD zero) (q.getLastD (whole 1))) (q.getD (y.2 - (p.length - q.length)) zero))
theorem restOn_succ (f : Nat) (p q : List Frac) : Sr71.restOn (f + 1) p q = if p.length < q.length ∨ q = [] then p else Sr71.restOn f (Sr71.trim (rstep p q)) q := rfl
theorem last_at {p : List Frac} (h : p ≠ []) (d : Frac) : p[p.length - 1]? = some (p.getLastD d) := by
  rw [← List.getLast?_eq_getElem?]
  cases hl : p.getLast? with
  | none => exact absurd (List.getLast?_eq_none_iff.mp hl) h
  | some c =>
    rw [List.getLastD_eq_getLast?, hl]
    rfl
theorem co_last {p : List Frac} (h : p ≠ []) (d : Frac) : co p (p.length - 1) = val (p.getLastD d) := by
  unfold co
  rw [List.getD_eq_getElem?_getD, last_at h d]
  rfl
/-- q by which may be divided -/
structure Dv (q : List Frac) : Prop where
  nf : NfL q
  ne : q ≠ []
  tr : Trm q
theorem Dv.last {q : List Frac} (h : Dv q) (d : Frac) : (q.getLastD d).n ≠ 0 ∧ Nf (q.getLastD d) := by
  have e := last_at h.ne d
  refine ⟨h.tr _ ?_, h.nf _ (List.mem_of_getElem? e)⟩
  rw [List.getLast?_eq_getElem?]
  exact e
section
variable {p q : List Frac}
theorem rstep_c (hp : NfL p) (p0 : p ≠ []) (hq : Dv q) : Nf (over (p.getLastD zero) (q.getLastD (whole 1))) ∧ val (over (p.getLastD zero) (q.getLastD (whole 1))) = val (p.getLastD zero) / val (q.getLastD (whole 1)) := by
  obtain ⟨h1, h2⟩ := hq.last (whole 1)
  have np : Nf (p.getLastD zero) := hp _ (List.mem_of_getElem? (last_at p0 zero))
  exact ⟨nf_over np h1, val_over np h2 h1⟩
theorem rstep_at (i : Nat) : (rstep p q)[i]? = p[i]?.map fun y => if i < p.length - q.length then y else minus y (times (over (p.getLastD zero) (q.getLastD (whole 1))) (q.getD (i - (p.length - q.length)) zero)) := by
  unfold rstep
  rw [List.getElem?_map, List.getElem?_zipIdx]
  cases p[i]? with
  | none => rfl
  | some c => simp
theorem rstep_nf (hp : NfL p) (p0 : p ≠ []) (hq : Dv q) : NfL (rstep p q) := by
  intro y hy
  obtain ⟨i, hi, rfl⟩ := List.mem_iff_getElem.mp hy
  have e := rstep_at (p := p) (q := q) i
  rw [List.getElem?_eq_getElem hi] at e
  cases h : p[i]? with
  | none => rw [h] at e; cases e
  | some c =>
    rw [h] at e
    rw [Option.some.inj e]
    have hc := hp c (List.mem_of_getElem? h)
    show Nf (if i < p.length - q.length then c else _)
    split
    · exact hc
    · exact nf_minus hc (nf_times (rstep_c hp p0 hq).1 (nf_getD hq.nf _))
theorem co_rstep (hp : NfL p) (p0 : p ≠ []) (hq : Dv q) (hl : q.length ≤ p.length) (i : Nat) : co (rstep p q) i = co p i - val (over (p.getLastD zero) (q.getLastD (whole 1))) * (if i < p.length - q.length then 0 else co q (i - (p.length - q.length))) := by
  have e1 : co (rstep p q) i = val (((p[i]?).map fun y => if i < p.length - q.length then y else minus y (times (over (p.getLastD zero) (q.getLastD (whole 1))) (q.getD (i - (p.length - q.length)) zero))).getD zero) := by
    rw [← rstep_at (p := p) (q := q) i, ← List.getD_eq_getElem?_getD]
    rfl
  have e2 : co p i = val ((p[i]?).getD zero) := by
    rw [← List.getD_eq_getElem?_getD]
    rfl
  rw [e1, e2]
  cases h : p[i]? with
  | none =>
    have := List.getElem?_eq_none_iff.mp h
    rw [if_neg (by omega), co_ge (show q.length ≤ i - (p.length - q.length) by omega)]
    show val zero = val zero - _ * 0
    grind
  | some c =>
    have hc := hp c (List.mem_of_getElem? h)
    show val (if i < p.length - q.length then c else _) = val c - _
    by_cases c1 : i < p.length - q.length
    · rw [if_pos c1, if_pos c1]
      grind
    · rw [if_neg c1, if_neg c1, val_minus hc (nf_times (rstep_c hp p0 hq).1 (nf_getD hq.nf _)), val_times (rstep_c hp p0 hq).1 (nf_getD hq.nf _)]
      rfl
theorem rstep_less (hp : NfL p) (p0 : p ≠ []) (hq : Dv q) (hl : q.length ≤ p.length) : (Sr71.trim (rstep p q)).length ≤ p.length - 1 := by
  refine trim_less (rstep_nf hp p0 hq) fun i hi => ?_
  rw [co_rstep hp p0 hq hl]
  have q1 : 0 < q.length := List.length_pos_iff.mpr hq.ne
  by_cases c : i = p.length - 1
  · rw [c, if_neg (by omega), show p.length - 1 - (p.length - q.length) = q.length - 1 by omega, co_last p0 zero, co_last hq.ne (whole 1), (rstep_c hp p0 hq).2]
    have : val (q.getLastD (whole 1)) ≠ 0 := fun z => (hq.last (whole 1)).1 ((val_eq_zero (hq.last (whole 1)).2).mp z)
    grind
  · rw [co_ge (show p.length ≤ i by omega), if_neg (by omega), co_ge (show q.length ≤ i - (p.length - q.length) by omega)]
    grind
theorem rv_rstep (hp : NfL p) (p0 : p ≠ []) (hq : Dv q) (hl : q.length ≤ p.length) (x : Rat) : rv (vl p) x = rv (List.replicate (p.length - q.length) 0 ++ [val (over (p.getLastD zero) (q.getLastD (whole 1)))]) x * rv (vl q) x + rv (vl (rstep p q)) x := by
  have e : rv (vl (rstep p q)) x = rv (addL (vl p) (smL (-val (over (p.getLastD zero) (q.getLastD (whole 1)))) (List.replicate (p.length - q.length) 0 ++ vl q))) x := by
    refine (rv_ext _ _ (fun m => ?_) x).1
    rw [getD_vl, co_rstep hp p0 hq hl, getD_addL, getD_smL, getD_shift, getD_vl, getD_vl]
    grind
  rw [e, (rv_addL _ _ x).1, (rv_smL _ _ x).1, rv_shift, rv_shift]
  show _ = pw x _ * (val _ + x * 0) * _ + _
  grind
theorem restOn_ok (hq : Dv q) : ∀ (f : Nat) (p : List Frac), p.length < f → NfL p → Trm p → NfL (Sr71.restOn f p q) ∧ Trm (Sr71.restOn f p q) ∧ (Sr71.restOn f p q).length < q.length ∧ ∃ m, ∀ x, rv (vl p) x = rv m x * rv (vl q) x + rv (vl (Sr71.restOn f p q)) x
  | 0, p, h, _, _ => absurd h (Nat.not_lt_zero _)
  | f + 1, p, h, hp, ht => by
    rw [restOn_succ]
    have q1 : 0 < q.length := List.length_pos_iff.mpr hq.ne
    by_cases c : p.length < q.length
    · rw [if_pos (.inl c)]
      refine ⟨hp, ht, c, [], fun x => ?_⟩
      show _ = 0 * _ + _
      grind
    · rw [if_neg (fun z => z.elim c hq.ne)]
      have p0 : p ≠ [] := fun z => by rw [z] at c; exact c q1
      have hl : q.length ≤ p.length := by omega
      have rn := rstep_nf hp p0 hq
      have rl := rstep_less hp p0 hq hl
      obtain ⟨i1, i2, i3, m, i4⟩ := restOn_ok hq f (Sr71.trim (rstep p q)) (by omega) (trim_nf rn) (trim_trm _)
      refine ⟨i1, i2, i3, addL m (List.replicate (p.length - q.length) 0 ++ [val (over (p.getLastD zero) (q.getLastD (whole 1)))]), fun x => ?_⟩
      have h4 := i4 x
      rw [rv_trim rn] at h4
      rw [rv_rstep hp p0 hq hl x, h4, (rv_addL _ _ x).1]
      grind
end
theorem nf_map_neg {r : List Frac} (h : NfL r) : NfL (r.map neg) := fun y hy => by
  obtain ⟨z, hz, rfl⟩ := List.mem_map.mp hy
  exact nf_neg (h z hz)
theorem trm_map_neg {r : List Frac} (h : Trm r) : Trm (r.map neg) := fun c hc => by
  rw [List.getLast?_map] at hc
  cases hl : r.getLast? with
  | none => rw [hl] at hc; cases hc
  | some z =>
    rw [hl] at hc
    obtain rfl := Option.some.inj hc
    have := h z hl
    show -z.n ≠ 0
    omega
theorem rv_map_neg (r : List Frac) (x : Rat) : rv (vl (r.map neg)) x = -rv (vl r) x := by
  induction r with
  | nil => show (0 : Rat) = -0; grind
  | cons c l ih =>
    show val (neg c) + x * rv (vl (l.map neg)) x = -(val c + x * rv (vl l) x)
    rw [ih, val_neg]
    grind
/-- the chain of two -/
structure ChOk (p q : List Frac) (l : List (List Frac)) : Prop where
  ex : ∃ l', l = p :: l' ∧ ∀ x, hd (l'.map vl) x = rv (vl q) x
  ch : Chn (l.map vl)
  all : ∀ s ∈ l, Dv s
  len : l.length ≤ q.length + 1
  end1 : l.length = q.length + 1 → p.length = q.length + 1 → ∃ s, l.getLast? = some s ∧ s.length = 1
theorem chainOn_ok : ∀ (f : Nat) (p q : List Frac), q.length < f → Dv p → NfL q → Trm q → ChOk p q (Sr71.chainOn f p q)
  | 0, _, _, h, _, _, _ => absurd h (Nat.not_lt_zero _)
  | f + 1, p, q, h, hp, nq, tq => by
    have un : Sr71.chainOn (f + 1) p q = if q = [] then [p] else p :: Sr71.chainOn f q ((Sr71.restOn (p.length + 1) p q).map neg) := rfl
    rw [un]
    by_cases c : q = []
    · rw [if_pos c]
      subst c
      exact ⟨⟨[], rfl, fun x => rfl⟩, .one _, fun s hs => by rw [List.mem_singleton.mp hs]; exact hp, Nat.le_refl _, fun _ hl => ⟨p, rfl, hl⟩⟩
    · rw [if_neg c]
      have hq : Dv q := ⟨nq, c, tq⟩
      obtain ⟨r1, r2, r3, m, r4⟩ := restOn_ok hq (p.length + 1) p (Nat.lt_succ_self _) hp.nf hp.tr
      generalize Sr71.restOn (p.length + 1) p q = r at r1 r2 r3 r4
      have rl : (r.map neg).length = r.length := List.length_map _
      have ih := chainOn_ok f q (r.map neg) (by omega) hq (nf_map_neg r1) (trm_map_neg r2)
      obtain ⟨⟨l', el, hh⟩, ch, all, len, e1⟩ := ih
      refine ⟨⟨_, rfl, fun x => ?_⟩, ?_, fun s hs => ?_, ?_, fun hl hpl => ?_⟩
      · rw [el]
        rfl
      · rw [el] at ch ⊢
        refine .cons (vl p) (vl q) (l'.map vl) m 1 (by decide) (fun x => ?_) ch
        rw [r4 x, hh x, rv_map_neg]
        grind
      · rcases List.mem_cons.mp hs with z | z
        · rw [z]; exact hp
        · exact all s z
      · rw [List.length_cons]
        omega
      · rw [List.length_cons] at hl
        obtain ⟨s, h1, h2⟩ := e1 (by omega) (by omega)
        refine ⟨s, ?_, h2⟩
        rw [el] at h1 ⊢
        rw [List.getLast?_cons_cons]
        exact h1
/-! ### what's single -/
theorem quotOn_succ (f : Nat) (p q r : List Frac) : Sr71.quotOn (f + 1) p q r = if p.length < q.length ∨ q = [] then r else Sr71.quotOn f (Sr71.trim (rstep p q)) q (r.set (p.length - q.length) (over (p.getLastD zero) (q.getLastD (whole 1)))) := rfl
theorem quotOn_ok {g : Frac} (hq : Dv [g]) : ∀ (f : Nat) (p r : List Frac), p.length < f → NfL p → Trm p → NfL r → p.length ≤ r.length → (∀ i, i < p.length → co r i = 0) →
    NfL (Sr71.quotOn f p [g] r) ∧ (Sr71.quotOn f p [g] r).length = r.length ∧ ∀ i, co (Sr71.quotOn f p [g] r) i = if i < p.length then co p i / val g else co r i
  | 0, p, r, h, _, _, _, _, _ => absurd h (Nat.not_lt_zero _)
  | f + 1, p, r, h, hp, ht, hr, hl, hz => by
    rw [quotOn_succ]
    by_cases c : p = []
    · subst c
      rw [if_pos (.inl (by simp))]
      exact ⟨hr, rfl, fun i => by rw [if_neg (by simp)]⟩
    · have p1 : 0 < p.length := List.length_pos_iff.mpr c
      rw [if_neg (fun z => z.elim (fun z => by rw [List.length_singleton] at z; omega) hq.ne)]
      have hl1 : ([g] : List Frac).length ≤ p.length := by simp; omega
      have rn := rstep_nf hp c hq
      have rl := rstep_less hp c hq hl1
      obtain ⟨c1, c2⟩ := rstep_c hp c hq
      have g0 : val g ≠ 0 := fun z => (hq.last (whole 1)).1 ((val_eq_zero (hq.last (whole 1)).2).mp z)
      have cr : ∀ i, co (Sr71.trim (rstep p [g])) i = if i < p.length - 1 then co p i else 0 := fun i => by
        rw [co_trim rn, co_rstep hp c hq hl1]
        by_cases i1 : i < p.length - 1
        · rw [if_pos i1, if_pos (by simpa using i1)]
          grind
        · rw [if_neg i1]
          have := rstep_less hp c hq hl1
          by_cases i2 : i = p.length - 1
          · rw [if_neg (by simp; omega), i2, co_last c zero, c2]
            have e : p.length - 1 - (p.length - [g].length) = 0 := by simp
            rw [e]
            show val (p.getLastD zero) - val (p.getLastD zero) / val g * val g = 0
            grind
          · rw [co_ge (show p.length ≤ i by omega), if_neg (by simp; omega), co_ge (p := [g]) (by simp; omega)]
            grind
      have es : ∀ i, co (r.set (p.length - [g].length) (over (p.getLastD zero) ([g].getLastD (whole 1)))) i = if i = p.length - 1 then co p (p.length - 1) / val g else co r i := fun i => by
        show val ((r.set (p.length - 1) _).getD i zero) = _
        rw [getD_set (by omega)]
        by_cases i1 : i = p.length - 1
        · rw [if_pos i1, if_pos i1, c2, co_last c zero]
          rfl
        · rw [if_neg i1, if_neg i1]
          rfl
      obtain ⟨i1, i2, i3⟩ := quotOn_ok hq f (Sr71.trim (rstep p [g])) (r.set (p.length - [g].length) (over (p.getLastD zero) ([g].getLastD (whole 1)))) (by omega) (trim_nf rn) (trim_trm _)
        (fun y hy => by
          rcases List.mem_or_eq_of_mem_set hy with z | z
          · exact hr y z
          · rw [z]; exact c1) (by rw [List.length_set]; omega) (fun i hi => by rw [es, if_neg (by omega)]; exact hz i (by omega))
      refine ⟨i1, by rw [i2, List.length_set], fun i => ?_⟩
      rw [i3, es]
      by_cases k1 : i < (Sr71.trim (rstep p [g])).length
      · rw [if_pos k1, cr, if_pos (by omega), if_pos (by omega)]
      · rw [if_neg k1]
        by_cases k2 : i = p.length - 1
        · rw [if_pos k2, if_pos (by omega), k2]
        · rw [if_neg k2]
          by_cases k3 : i < p.length
          · rw [if_pos k3, hz i k3]
            have : co (Sr71.trim (rstep p [g])) i = 0 := co_ge (by omega)
            rw [cr, if_pos (by omega)] at this
            rw [this]
            grind
          · rw [if_neg k3]
theorem quot_ok {p : List Frac} {g : Frac} (hp : Dv p) (hg : Dv [g]) : NfL (Sr71.quot p [g]) ∧ (Sr71.quot p [g]).length = p.length ∧ ∀ i, co (Sr71.quot p [g]) i = co p i / val g := by
  unfold Sr71.quot
  have hz : ∀ i, co (List.replicate (p.length + 1 - [g].length) zero) i = 0 := fun i => by
    unfold co
    rw [List.getD_eq_getElem?_getD, List.getElem?_replicate]
    split <;> exact val_zero
  obtain ⟨h1, h2, h3⟩ := quotOn_ok hg (p.length + 1) p (List.replicate (p.length + 1 - [g].length) zero) (Nat.lt_succ_self _) hp.nf hp.tr (fun y hy => by rw [(List.mem_replicate.mp hy).2]; exact nf_zero) (by simp) (fun i _ => hz i)
  refine ⟨h1, by rw [h2]; simp, fun i => ?_⟩
  rw [h3]
  by_cases c : i < p.length
  · rw [if_pos c]
  · rw [if_neg c, hz, co_ge (by omega)]
    have g0 : val g ≠ 0 := fun z => (hg.last (whole 1)).1 ((val_eq_zero (hg.last (whole 1)).2).mp z)
    grind
end Sm

/-! # The polynomials at right angles follow one another -/
namespace Sm
open Sr58 (Frac frac plus times whole total)
open Sr66 (minus over zero neg)
open Sr73 (Means)
structure Og (s : Means) (p : Nat → List Frac) (H : Nat → Rat) (k : Nat) : Prop where
  nf : ∀ t, t ≤ k → NfL (p t)
  len : ∀ t, t ≤ k → (p t).length = t + 1
  mon : ∀ t, t ≤ k → co (p t) t = 1
  hp : ∀ t, 0 < H t
  bel : ∀ t, t ≤ k → ∀ i, i < t → L s (p t) i = 0
  self : ∀ t, t ≤ k → B s (p t) (p t) = H t
  orth : ∀ t t', t ≤ k → t' ≤ k → t ≠ t' → B s (p t) (p t') = 0
theorem S_first : ∀ (n : Nat) (f : Nat → Rat), S (n + 1) f = f 0 + S n (fun i => f (i + 1))
  | 0, f => by show 0 + f 0 = f 0 + 0; grind
  | n + 1, f => by
    show S (n + 1) f + f (n + 1) = f 0 + (S n (fun i => f (i + 1)) + f (n + 1))
    rw [S_first n f]
    grind
/-- the mean of the power 1 times both -/
def Xb (s : Means) (p q : List Frac) : Rat := S p.length (fun m => co p m * L s q (m + 1))
theorem Xb_comm (s : Means) (p q : List Frac) : Xb s p q = Xb s q p := by
  unfold Xb L
  have e1 : S p.length (fun m => co p m * S q.length (fun i => co q i * mo s (i + (m + 1)))) = S p.length (fun m => S q.length (fun i => co p m * co q i * mo s (i + m + 1))) := by
    refine S_congr fun m _ => ?_
    rw [← S_mul]
    refine S_congr fun i _ => ?_
    rw [← Nat.add_assoc]
    grind
  have e2 : S q.length (fun i => co q i * S p.length (fun m => co p m * mo s (m + (i + 1)))) = S q.length (fun i => S p.length (fun m => co p m * co q i * mo s (i + m + 1))) := by
    refine S_congr fun i _ => ?_
    rw [← S_mul]
    refine S_congr fun m _ => ?_
    rw [show m + (i + 1) = i + m + 1 by omega]
    grind
  rw [e1, e2, S_swap]
section
variable {s : Means} {p : Nat → List Frac} {H : Nat → Rat} {k : Nat}
theorem Og.diag (h : Og s p H k) {t : Nat} (ht : t ≤ k) : L s (p t) t = H t := by
  have e := h.self t ht
  rw [B_L, h.len t ht, S_one (a := t) (Nat.lt_succ_self t)] at e
  · rw [h.mon t ht] at e
    grind
  · intro i hi
    by_cases c : i < t
    · rw [h.bel t ht i c]; grind
    · rw [co_ge (by rw [h.len t ht]; omega)]; grind
/-- what is at right angles to all is 0 -/
theorem Og.nil0 (h : Og s p H k) {t : Nat} (ht : t ≤ k) {c : Nat → Rat} (hc : ∀ m, t < m → c m = 0) (h0 : ∀ i, i ≤ t → S (t + 1) (fun m => c m * L s (p i) m) = 0) : ∀ m, c m = 0 := by
  have key : ∀ n m, t + 1 ≤ m + n → c m = 0 := by
    intro n
    induction n with
    | zero => intro m hm; exact hc m (by omega)
    | succ n ih =>
      intro m hm
      by_cases c1 : t + 1 ≤ m + n
      · exact ih m c1
      · have e := h0 m (by omega)
        rw [S_one (a := m) (by omega)] at e
        · rw [h.diag (by omega)] at e
          have := h.hp m
          by_cases z : c m = 0
          · exact z
          · exfalso
            have : c m * H m ≠ 0 := by
              intro w
              rcases Rat.mul_eq_zero.mp w with w | w
              · exact z w
              · grind
            exact this e
        · intro i hi
          by_cases c2 : i < m
          · rw [h.bel m (by omega) i c2]; grind
          · rw [ih i (by omega)]; grind
  exact fun m => key (t + 1) m (by omega)
/-- the one ahead, if there's one -/
def prv (p : Nat → List Frac) : Nat → List Frac
  | 0 => []
  | u + 1 => p u
def bOf (H : Nat → Rat) : Nat → Rat
  | 0 => 1
  | u + 1 => H (u + 1) / H u
theorem bOf_pos (hp : ∀ t, 0 < H t) : ∀ u, 0 < bOf H u
  | 0 => by show (0 : Rat) < 1; decide
  | u + 1 => by
    show 0 < H (u + 1) / H u
    rw [Rat.div_def]
    exact Rat.mul_pos (hp _) (Rat.inv_pos.mpr (hp _))
def aOf (s : Means) (p : Nat → List Frac) (H : Nat → Rat) (u : Nat) : Rat := Xb s (p u) (p u) / H u
theorem Og.recur (h : Og s p H k) {u : Nat} (hu : u + 1 ≤ k) (m : Nat) : co (p (u + 1)) m = (if m = 0 then 0 else co (p u) (m - 1)) - aOf s p H u * co (p u) m - bOf H u * co (prv p u) m := by
  have lu := h.len u (by omega)
  have lu1 := h.len (u + 1) hu
  have lp : (prv p u).length ≤ u := by
    cases u with
    | zero => exact Nat.le_refl _
    | succ u => show (p u).length ≤ u + 1; rw [h.len u (by omega)]; exact Nat.le_refl _
  have hz := h.nil0 (t := u) (by omega) (c := fun m => (if m = 0 then 0 else co (p u) (m - 1)) - co (p (u + 1)) m - aOf s p H u * co (p u) m - bOf H u * co (prv p u) m) ?_ ?_ m
  · have hz : (if m = 0 then 0 else co (p u) (m - 1)) - co (p (u + 1)) m - aOf s p H u * co (p u) m - bOf H u * co (prv p u) m = 0 := hz
    grind
  · intro m hm
    show (if m = 0 then 0 else co (p u) (m - 1)) - co (p (u + 1)) m - aOf s p H u * co (p u) m - bOf H u * co (prv p u) m = 0
    rw [if_neg (by omega), co_ge (p := p u) (i := m) (by omega), co_ge (p := prv p u) (by omega)]
    by_cases c : m = u + 1
    · rw [c, h.mon (u + 1) hu, Nat.add_sub_cancel, h.mon u (by omega)]
      grind
    · rw [co_ge (p := p u) (i := m - 1) (by omega), co_ge (p := p (u + 1)) (by omega)]
      grind
  · intro i hi
    -- each part
    have eX : S (u + 1) (fun m => (if m + 1 = 0 then 0 else co (p u) (m + 1 - 1)) * L s (p i) (m + 1)) = Xb s (p u) (p i) := by
      unfold Xb
      rw [lu]
      refine S_congr fun m _ => ?_
      rw [if_neg (by omega), Nat.add_sub_cancel]
    have eA : S (u + 2) (fun m => (if m = 0 then 0 else co (p u) (m - 1)) * L s (p i) m) = Xb s (p u) (p i) := by
      rw [S_first, ← eX]
      simp only [if_true]
      grind
    have eB : S (u + 2) (fun m => co (p (u + 1)) m * L s (p i) m) = 0 := by
      have := h.orth (u + 1) i hu (by omega) (by omega)
      rw [B_L, lu1] at this
      exact this
    have eC : S (u + 2) (fun m => co (p u) m * L s (p i) m) = B s (p u) (p i) := by
      rw [B_L, lu]
      exact S_to (fun m hm => by rw [co_ge (by omega)]; grind) (by omega)
    have eD : S (u + 2) (fun m => co (prv p u) m * L s (p i) m) = B s (prv p u) (p i) := by
      rw [B_L]
      exact S_to (fun m hm => by rw [co_ge hm]; grind) (by omega)
    have split : S (u + 2) (fun m => ((if m = 0 then 0 else co (p u) (m - 1)) - co (p (u + 1)) m - aOf s p H u * co (p u) m - bOf H u * co (prv p u) m) * L s (p i) m) = Xb s (p u) (p i) - 0 - aOf s p H u * B s (p u) (p i) - bOf H u * B s (prv p u) (p i) := by
      have h1 : S (u + 2) (fun m => ((if m = 0 then 0 else co (p u) (m - 1)) - co (p (u + 1)) m - aOf s p H u * co (p u) m - bOf H u * co (prv p u) m) * L s (p i) m)
          = S (u + 2) (fun m => (((if m = 0 then 0 else co (p u) (m - 1)) * L s (p i) m + (-1) * (co (p (u + 1)) m * L s (p i) m)) + (-aOf s p H u) * (co (p u) m * L s (p i) m)) + (-bOf H u) * (co (prv p u) m * L s (p i) m)) := S_congr fun m _ => by grind
      rw [h1, S_add, S_add, S_add, S_mul, S_mul, S_mul, eA, eB, eC, eD]
      grind
    have top : S (u + 2) (fun m => ((if m = 0 then 0 else co (p u) (m - 1)) - co (p (u + 1)) m - aOf s p H u * co (p u) m - bOf H u * co (prv p u) m) * L s (p i) m) = S (u + 1) (fun m => ((if m = 0 then 0 else co (p u) (m - 1)) - co (p (u + 1)) m - aOf s p H u * co (p u) m - bOf H u * co (prv p u) m) * L s (p i) m) := by
      refine S_to (fun m hm => ?_) (by omega)
      rw [if_neg (by omega), co_ge (p := p u) (i := m) (by omega), co_ge (p := prv p u) (by omega)]
      by_cases c : m = u + 1
      · rw [c, h.mon (u + 1) hu, Nat.add_sub_cancel, h.mon u (by omega)]
        grind
      · rw [co_ge (p := p u) (i := m - 1) (by omega), co_ge (p := p (u + 1)) (by omega)]
        grind
    show S (u + 1) (fun m => ((if m = 0 then 0 else co (p u) (m - 1)) - co (p (u + 1)) m - aOf s p H u * co (p u) m - bOf H u * co (prv p u) m) * L s (p i) m) = 0
    rw [← top, split]
    by_cases c : i = u
    · subst c
      have e1 : B s (prv p i) (p i) = 0 := by
        cases i with
        | zero => rw [B_L]; rfl
        | succ u => exact h.orth u (u + 1) (by omega) (by omega) (by omega)
      rw [e1, h.self i (by omega)]
      unfold aOf
      have := h.hp i
      grind
    · rw [h.orth u i (by omega) (by omega) (fun z => c z.symm)]
      cases u with
      | zero => omega
      | succ u =>
        show Xb s (p (u + 1)) (p i) - 0 - _ * 0 - H (u + 1) / H u * B s (p u) (p i) = 0
        by_cases c2 : i = u
        · subst c2
          rw [h.self i (by omega), Xb_comm]
          have e : Xb s (p i) (p (i + 1)) = H (i + 1) := by
            unfold Xb
            rw [h.len i (by omega), S_one (a := i) (Nat.lt_succ_self i)]
            · rw [h.mon i (by omega), h.diag (by omega)]
              grind
            · intro m hm
              by_cases c3 : m < i
              · rw [h.bel (i + 1) (by omega) (m + 1) (by omega)]; grind
              · rw [co_ge (by rw [h.len i (by omega)]; omega)]; grind
          rw [e]
          have := h.hp i
          grind
        · rw [h.orth u i (by omega) (by omega) (fun z => c2 z.symm), Xb_comm]
          have e : Xb s (p i) (p (u + 1)) = 0 := by
            unfold Xb
            rw [h.len i (by omega)]
            refine S_zero fun m hm => ?_
            rw [h.bel (u + 1) (by omega) (m + 1) (by omega)]
            grind
          rw [e]
          grind
theorem Og.rr (h : Og s p H k) {u : Nat} (hu : u + 1 ≤ k) (x : Rat) : rv (vl (p (u + 1))) x = (x - aOf s p H u) * rv (vl (p u)) x - bOf H u * rv (vl (prv p u)) x ∧
    rd (vl (p (u + 1))) x = rv (vl (p u)) x + (x - aOf s p H u) * rd (vl (p u)) x - bOf H u * rd (vl (prv p u)) x := by
  have e := rv_ext (vl (p (u + 1))) (addL (0 :: vl (p u)) (addL (smL (-aOf s p H u) (vl (p u))) (smL (-bOf H u) (vl (prv p u))))) (fun m => ?_) x
  · obtain ⟨e1, e2⟩ := e
    rw [e1, e2, (rv_addL _ _ x).1, (rv_addL _ _ x).1, (rv_addL _ _ x).2, (rv_addL _ _ x).2, (rv_smL _ _ x).1, (rv_smL _ _ x).1, (rv_smL _ _ x).2, (rv_smL _ _ x).2]
    refine ⟨?_, ?_⟩
    · show 0 + x * rv (vl (p u)) x + _ = _
      grind
    · show rv (vl (p u)) x + x * rd (vl (p u)) x + _ = _
      grind
  · rw [getD_vl, h.recur hu m, getD_addL, getD_addL, getD_smL, getD_smL, getD_vl, getD_vl]
    cases m with
    | zero =>
      show (if 0 = 0 then 0 else _) - _ - _ = (0 : Rat) + _
      simp only [if_true]
      grind
    | succ m =>
      rw [if_neg (by omega), Nat.add_sub_cancel]
      show _ = (vl (p u)).getD m 0 + _
      rw [getD_vl]
      grind
theorem Og.isRec (h : Og s p H k) {j : Nat} (hj : j ≤ k) : Rec (fun t => vl (p t)) (aOf s p H) (bOf H) j := by
  have p0 : ∃ c, p 0 = [c] ∧ val c = 1 := by
    have l := h.len 0 (by omega)
    have m := h.mon 0 (by omega)
    match hp : p 0, l with
    | [c], _ =>
      rw [hp] at m
      exact ⟨c, rfl, m⟩
  obtain ⟨c, ec, hc⟩ := p0
  have r0 : ∀ x, rv (vl (p 0)) x = 1 := fun x => by
    rw [ec]
    show val c + x * 0 = 1
    rw [hc]
    grind
  have d0 : ∀ x, rd (vl (p 0)) x = 0 := fun x => by
    rw [ec]
    show 0 + x * 0 = (0 : Rat)
    grind
  refine ⟨r0, d0, bOf_pos h.hp, fun h1 x => ?_, fun h1 x => ?_, fun t ht x => ?_, fun t ht x => ?_⟩
  · have := (h.rr (u := 0) (by omega) x).1
    rw [r0] at this
    have z : rv (vl (prv p 0)) x = 0 := rfl
    rw [z] at this
    show rv (vl (p 1)) x = _
    grind
  · have := (h.rr (u := 0) (by omega) x).2
    rw [r0, d0] at this
    have z : rd (vl (prv p 0)) x = 0 := rfl
    rw [z] at this
    show rd (vl (p 1)) x = _
    grind
  · exact (h.rr (u := t + 1) (by omega) x).1
  · exact (h.rr (u := t + 1) (by omega) x).2
end
/-- what is found where it fits strictly -/
theorem strict_og {s : Means} (hm : MB s.m) (h8 : s.k < 8) (hs : Sr73.strict s = true) : ∃ H, Og s (fun t => ((Sr73.looked s).1.getD t ([], whole 1)).1) H s.k := by
  obtain ⟨h, hfl⟩ := strict_fd hm h8 hs
  have at_ : ∀ t, t ≤ s.k → ∃ y, (Sr73.looked s).1[t]? = some y ∧ (Sr73.looked s).1.getD t ([], whole 1) = y := fun t ht => by
    have e : (Sr73.looked s).1[t]? = some ((Sr73.looked s).1[t]'(by omega)) := List.getElem?_eq_getElem (by omega)
    exact ⟨_, e, by rw [List.getD_eq_getElem?_getD, e]; rfl⟩
  refine ⟨fun t => if t ≤ s.k then B s ((Sr73.looked s).1.getD t ([], whole 1)).1 ((Sr73.looked s).1.getD t ([], whole 1)).1 else 1, ?_⟩
  refine ⟨fun t ht => ?_, fun t ht => ?_, fun t ht => ?_, fun t => ?_, fun t ht i hi => ?_, fun t ht => ?_, fun t t' ht ht' ne => ?_⟩
  · obtain ⟨y, e, ed⟩ := at_ t ht
    show NfL ((Sr73.looked s).1.getD t ([], whole 1)).1
    rw [ed]
    exact (h.fnd.one t y e).1.nf
  · obtain ⟨y, e, ed⟩ := at_ t ht
    show ((Sr73.looked s).1.getD t ([], whole 1)).1.length = _
    rw [ed]
    exact h.full hfl t y e
  · obtain ⟨y, e, ed⟩ := at_ t ht
    show co ((Sr73.looked s).1.getD t ([], whole 1)).1 t = 1
    rw [ed]
    have := (h.mono t y e).2
    rwa [h.full hfl t y e, Nat.add_sub_cancel] at this
  · by_cases ht : t ≤ s.k
    · obtain ⟨y, e, ed⟩ := at_ t ht
      show 0 < if t ≤ s.k then _ else _
      rw [if_pos ht, ed]
      obtain ⟨pb, ey, pos, _⟩ := h.fnd.one t y e
      rw [← val_msq hm.nf pb.nf, ← ey]
      exact (val_pos (by rw [ey]; exact nf_msq pb.nf hm.nf)).mpr pos
    · show 0 < if t ≤ s.k then _ else _
      rw [if_neg ht]
      decide
  · obtain ⟨y, e, ed⟩ := at_ t ht
    show L s ((Sr73.looked s).1.getD t ([], whole 1)).1 i = 0
    rw [ed]
    exact h.below t y e i (by rw [h.full hfl t y e]; omega)
  · show _ = if t ≤ s.k then _ else _
    rw [if_pos ht]
  · obtain ⟨y, e, ed⟩ := at_ t ht
    obtain ⟨y', e', ed'⟩ := at_ t' ht'
    show B s ((Sr73.looked s).1.getD t ([], whole 1)).1 ((Sr73.looked s).1.getD t' ([], whole 1)).1 = 0
    rw [ed, ed']
    exact h.sym e e' ne
end Sm

/-! # Far out; how many zeros -/
namespace Sm
open Sr58 (Frac frac plus times whole total)
open Sr66 (minus over zero neg)
open Sr73 (Means)
/-! ### far out -/
def sr (c : Rat) : Rat := if c < 0 then -1 else 1
def par (n : Nat) : Rat := if n % 2 = 1 then 1 else -1
theorem sr_mul {c : Rat} (h : c ≠ 0) : 0 < sr c * c := by
  unfold sr
  split <;> grind
theorem sr_bd (c a : Rat) : Bd (ab a) (sr c * a) := by
  obtain ⟨h1, h2⟩ := bd_ab a
  unfold sr Bd
  split <;> grind
theorem par_bd (n : Nat) {M a : Rat} (h : Bd M a) : Bd M (par n * a) := by
  obtain ⟨h1, h2⟩ := h
  unfold par Bd
  split <;> grind
theorem par_succ (n : Nat) : par (n + 1) = -par n := by
  unfold par
  by_cases c : n % 2 = 1
  · rw [if_pos c, if_neg (by omega)]
  · rw [if_neg c, if_pos (by omega)]
    grind
theorem far_out : ∀ (l : List Rat) (c : Rat), l.getLast? = some c → c ≠ 0 → ∃ R k, 0 < R ∧ 0 < k ∧ (∀ x, R ≤ x → k ≤ sr c * rv l x) ∧ ∀ x, x ≤ -R → k ≤ par l.length * (sr c * rv l x)
  | [], c, h, _ => by cases h
  | [a], c, h, h0 => by
    obtain rfl := Option.some.inj h
    have p := sr_mul h0
    have e : ∀ x, rv [a] x = a := fun x => by show a + x * 0 = a; grind
    refine ⟨1, sr a * a, by decide, p, fun x _ => ?_, fun x _ => ?_⟩
    · rw [e]; exact Rat.le_refl
    · rw [e]
      show _ ≤ par 1 * _
      have : par 1 = 1 := rfl
      rw [this]
      grind
  | a :: b :: l, c, h, h0 => by
    rw [List.getLast?_cons_cons] at h
    obtain ⟨R, k, R0, k0, h1, h2⟩ := far_out (b :: l) c h h0
    have a0 := ab_nonneg a
    obtain ⟨R1, R10, e1⟩ := small_e (N := k) (d := ab a + k) k0 (by grind)
    have hR : 0 < R + R1 := by grind
    refine ⟨R + R1, k, hR, k0, fun x hx => ?_, fun x hx => ?_⟩
    · have i := h1 x (by grind)
      have m1 := Rat.mul_le_mul_of_nonneg_left i (show 0 ≤ x by grind)
      have m2 := Rat.mul_le_mul_of_nonneg_left (show R1 ≤ x by grind) (Rat.le_of_lt k0)
      obtain ⟨b1, b2⟩ := sr_bd c a
      show k ≤ sr c * (a + x * rv (b :: l) x)
      grind
    · have i := h2 x (by grind)
      have m1 := Rat.mul_le_mul_of_nonneg_left i (show 0 ≤ -x by grind)
      have m2 := Rat.mul_le_mul_of_nonneg_left (show R1 ≤ -x by grind) (Rat.le_of_lt k0)
      obtain ⟨b1, b2⟩ := par_bd (b :: l).length (sr_bd c a)
      rw [List.length_cons, par_succ]
      show k ≤ -par (b :: l).length * (sr c * (a + x * rv (b :: l) x))
      grind
theorem signOf_val {c : Frac} (hc : Nf c) : Sr71.signOf c = sg (val c) := by
  unfold Sr71.signOf sg
  have l := val_lt_zero hc
  have p := val_pos hc
  by_cases c1 : c.n < 0
  · rw [if_pos c1, if_pos (l.mpr c1)]
  · rw [if_neg c1, if_neg (fun z => c1 (l.mp z))]
    by_cases c2 : 0 < c.n
    · rw [if_pos c2, if_pos (p.mpr c2)]
    · rw [if_neg c2, if_neg (fun z => c2 (p.mp z))]
theorem far_sign {q : List Frac} (hq : Dv q) : ∃ R, 0 < R ∧ (∀ x, R ≤ x → sg (rv (vl q) x) = Sr71.atTop q) ∧ ∀ x, x ≤ -R → sg (rv (vl q) x) = Sr71.atEnd q := by
  obtain ⟨l1, l2⟩ := hq.last zero
  have e : (vl q).getLast? = some (val (q.getLastD zero)) := by
    rw [List.getLast?_map, List.getLast?_eq_getElem?, last_at hq.ne zero]
    rfl
  have v0 : val (q.getLastD zero) ≠ 0 := fun z => l1 ((val_eq_zero l2).mp z)
  obtain ⟨R, k, R0, k0, h1, h2⟩ := far_out (vl q) _ e v0
  rw [List.length_map] at h2
  have st : Sr71.atTop q = sg (val (q.getLastD zero)) := signOf_val l2
  have se : Sr71.atEnd q = if q.length % 2 = 1 then sg (val (q.getLastD zero)) else -sg (val (q.getLastD zero)) := by
    unfold Sr71.atEnd
    rw [signOf_val l2]
  generalize val (q.getLastD zero) = c at *
  refine ⟨R, R0, fun x hx => ?_, fun x hx => ?_⟩
  · have i := h1 x hx
    rw [st]
    unfold sr at i
    by_cases c1 : c < 0
    · rw [if_pos c1] at i
      rw [sg_neg c1, sg_neg (by grind)]
    · rw [if_neg c1] at i
      rw [sg_pos (show 0 < c by grind), sg_pos (by grind)]
  · have i := h2 x hx
    rw [se]
    unfold sr par at i
    by_cases c1 : c < 0
    · rw [if_pos c1] at i
      rw [sg_neg c1]
      by_cases c2 : q.length % 2 = 1
      · rw [if_pos c2] at i ⊢
        exact sg_neg (by grind)
      · rw [if_neg c2] at i ⊢
        exact sg_pos (by grind)
    · rw [if_neg c1] at i
      rw [sg_pos (show 0 < c by grind)]
      by_cases c2 : q.length % 2 = 1
      · rw [if_pos c2] at i ⊢
        exact sg_pos (by grind)
      · rw [if_neg c2] at i ⊢
        exact sg_neg (by grind)
/-- the same for many -/
theorem far_all : ∀ (l : List (List Frac)), (∀ s ∈ l, Dv s) → ∃ R, 0 < R ∧ (∀ x, R ≤ x → sgs (l.map vl) x = l.map Sr71.atTop) ∧ ∀ x, x ≤ -R → sgs (l.map vl) x = l.map Sr71.atEnd
  | [], _ => ⟨1, by decide, fun _ _ => rfl, fun _ _ => rfl⟩
  | q :: l, h => by
    obtain ⟨R, R0, h1, h2⟩ := far_sign (h q List.mem_cons_self)
    obtain ⟨R', R0', h1', h2'⟩ := far_all l fun s hs => h s (List.mem_cons_of_mem _ hs)
    refine ⟨R + R', by grind, fun x hx => ?_, fun x hx => ?_⟩
    · show sg (rv (vl q) x) :: sgs (l.map vl) x = _
      rw [h1 x (by grind), h1' x (by grind)]
      rfl
    · show sg (rv (vl q) x) :: sgs (l.map vl) x = _
      rw [h2 x (by grind), h2' x (by grind)]
      rfl
theorem turns_le : ∀ (l : List Int), Sr71.turns l ≤ l.length - 1
  | [] => Nat.zero_le _
  | [_] => Nat.zero_le _
  | x :: y :: l => by
    have := turns_le (y :: l)
    show (if x * y < 0 then 1 else 0) + Sr71.turns (y :: l) ≤ _
    rw [List.length_cons] at this ⊢
    split <;> simp at this ⊢ <;> omega
theorem turnsBy_le (l : List Int) : Sr71.turnsBy l ≤ l.length - 1 := by
  unfold Sr71.turnsBy
  have h1 := turns_le (l.filter fun s => s ≠ 0)
  have h2 := List.length_filter_le (fun s : Int => decide (s ≠ 0)) l
  omega
/-! ### the polynomials at right angles, far out -/
theorem Bl_top {P : Nat → List Rat} {x : Rat} : ∀ j, (∀ t, t ≤ j → sg (rv (P t) x) = 1) → T (Bl P j) x = 0
  | 0, _ => tb_one _
  | j + 1, h => by
    show T (P (j + 1) :: Bl P j) x = 0
    have hj : sg (hd (Bl P j) x) = 1 := by rw [hd_Bl]; exact h j (by omega)
    rw [T_any (by rw [hj]; decide), hj, h (j + 1) (Nat.le_refl _), Bl_top j fun t ht => h t (by omega)]
    rfl
theorem Bl_end {P : Nat → List Rat} {x : Rat} : ∀ j, (∀ t, t ≤ j → sg (rv (P t) x) = if (t + 1) % 2 = 1 then 1 else -1) → T (Bl P j) x = j
  | 0, _ => tb_one _
  | j + 1, h => by
    show T (P (j + 1) :: Bl P j) x = j + 1
    have hj : sg (hd (Bl P j) x) = if (j + 1) % 2 = 1 then 1 else -1 := by rw [hd_Bl]; exact h j (by omega)
    have h1 := h (j + 1) (Nat.le_refl _)
    rw [T_any (by rw [hj]; split <;> decide), hj, h1, Bl_end j fun t ht => h t (by omega)]
    by_cases c : (j + 1) % 2 = 1
    · rw [if_pos c, if_neg (show ¬ (j + 1 + 1) % 2 = 1 by omega)]
      show 1 + j = j + 1
      omega
    · rw [if_neg c, if_pos (show (j + 1 + 1) % 2 = 1 by omega)]
      show 1 + j = j + 1
      omega
theorem far_P {s : Means} {p : Nat → List Frac} {H : Nat → Rat} {k : Nat} (h : Og s p H k) : ∀ j, j ≤ k → ∃ R, 0 < R ∧ (∀ x, R ≤ x → ∀ t, t ≤ j → sg (rv (vl (p t)) x) = 1) ∧ ∀ x, x ≤ -R → ∀ t, t ≤ j → sg (rv (vl (p t)) x) = if (t + 1) % 2 = 1 then 1 else -1 := by
  have one : ∀ t, t ≤ k → Dv (p t) ∧ Sr71.atTop (p t) = 1 ∧ Sr71.atEnd (p t) = if (t + 1) % 2 = 1 then 1 else -1 := fun t ht => by
    have l := h.len t ht
    have p0 : p t ≠ [] := fun z => by rw [z] at l; simp at l
    have lv : val ((p t).getLastD zero) = 1 := by
      rw [← co_last p0 zero, l, Nat.add_sub_cancel]
      exact h.mon t ht
    have ln : Nf ((p t).getLastD zero) := h.nf t ht _ (List.mem_of_getElem? (last_at p0 zero))
    have s1 : Sr71.signOf ((p t).getLastD zero) = 1 := by rw [signOf_val ln, lv]; rfl
    refine ⟨⟨h.nf t ht, p0, fun c hc => ?_⟩, s1, ?_⟩
    · rw [List.getLast?_eq_getElem?, last_at p0 zero] at hc
      obtain rfl := Option.some.inj hc
      intro z
      rw [(val_eq_zero ln).mpr z] at lv
      exact absurd lv (by decide)
    · unfold Sr71.atEnd
      rw [s1, l]
  intro j
  induction j with
  | zero =>
    intro _
    obtain ⟨d, t1, t2⟩ := one 0 (by omega)
    obtain ⟨R, R0, h1, h2⟩ := far_sign d
    refine ⟨R, R0, fun x hx t ht => ?_, fun x hx t ht => ?_⟩
    · obtain rfl : t = 0 := by omega
      rw [h1 x hx, t1]
    · obtain rfl : t = 0 := by omega
      rw [h2 x hx, t2]
  | succ j ih =>
    intro hj
    obtain ⟨R, R0, h1, h2⟩ := ih (by omega)
    obtain ⟨d, t1, t2⟩ := one (j + 1) hj
    obtain ⟨R', R0', h1', h2'⟩ := far_sign d
    refine ⟨R + R', by grind, fun x hx t ht => ?_, fun x hx t ht => ?_⟩
    · by_cases c : t ≤ j
      · exact h1 x (by grind) t c
      · obtain rfl : t = j + 1 := by omega
        rw [h1' x (by grind), t1]
    · by_cases c : t ≤ j
      · exact h2 x (by grind) t c
      · obtain rfl : t = j + 1 := by omega
        rw [h2' x (by grind), t2]
/-! ### the chain of one of them -/
section
variable {s : Means} {p : Nat → List Frac} {H : Nat → Rat} {k : Nat}
theorem Og.dv (h : Og s p H k) {t : Nat} (ht : t ≤ k) : Dv (p t) := by
  have l := h.len t ht
  have p0 : p t ≠ [] := fun z => by rw [z] at l; simp at l
  refine ⟨h.nf t ht, p0, fun c hc => ?_⟩
  have lv : val ((p t).getLastD zero) = 1 := by
    rw [← co_last p0 zero, l, Nat.add_sub_cancel]
    exact h.mon t ht
  have ln : Nf ((p t).getLastD zero) := h.nf t ht _ (List.mem_of_getElem? (last_at p0 zero))
  rw [List.getLast?_eq_getElem?, last_at p0 zero] at hc
  obtain rfl := Option.some.inj hc
  intro z
  rw [(val_eq_zero ln).mpr z] at lv
  exact absurd lv (by decide)
theorem chainOf_ok {q : List Frac} (hq : Dv q) : ChOk q (Sr71.trim (Sr71.slope q)) (Sr71.chainOf q) := by
  unfold Sr71.chainOf
  rw [trim_id hq.tr]
  refine chainOn_ok _ _ _ ?_ hq (trim_nf (slope_nf hq.nf)) (trim_trm _)
  have h1 := trim_len (Sr71.slope q)
  have h2 := slope_len q
  omega
/-- a multiple of one of them: its chain's turns, everywhere -/
theorem Og.chain (h : Og s p H k) {n : Nat} (hn : n + 1 ≤ k) {q : List Frac} (hq : Dv q) {g : Rat} (hg : g ≠ 0) (hc : ∀ i, co q i = g * co (p (n + 1)) i) :
    (∀ x y, x ≤ y → (T ((Sr71.chainOf q).map vl) x : Int) - T (Bl (fun t => vl (p t)) (n + 1)) x = (T ((Sr71.chainOf q).map vl) y : Int) - T (Bl (fun t => vl (p t)) (n + 1)) y ∧ T (Bl (fun t => vl (p t)) (n + 1)) y ≤ T (Bl (fun t => vl (p t)) (n + 1)) x) ∧
    Sr71.turnsBy ((Sr71.chainOf q).map Sr71.atEnd) = Sr71.turnsBy ((Sr71.chainOf q).map Sr71.atTop) + (n + 1) := by
  obtain ⟨⟨l', el, hh⟩, ch, all, len, e1⟩ := chainOf_ok hq
  have R := h.isRec (j := n + 1) hn
  have ev : ∀ x, rv (vl q) x = g * rv (vl (p (n + 1))) x ∧ rd (vl q) x = g * rd (vl (p (n + 1))) x := fun x => by
    have e := rv_ext (vl q) (smL g (vl (p (n + 1)))) (fun m => by rw [getD_vl, getD_smL, getD_vl, hc]) x
    rw [(rv_smL _ _ x).1, (rv_smL _ _ x).2] at e
    exact e
  have fr : ∀ x y, x ≤ y → (T ((Sr71.chainOf q).map vl) x : Int) - T (Bl (fun t => vl (p t)) (n + 1)) x = (T ((Sr71.chainOf q).map vl) y : Int) - T (Bl (fun t => vl (p t)) (n + 1)) y ∧ T (Bl (fun t => vl (p t)) (n + 1)) y ≤ T (Bl (fun t => vl (p t)) (n + 1)) x := fun x y hxy => by
    rw [el] at ch ⊢
    refine R.far (a0 := vl q) (A' := l'.map vl) ch hg (fun z => (ev z).1) (fun z => ?_) hxy
    rw [hh z, rv_trim (slope_nf hq.nf), rv_slope hq.nf]
    exact (ev z).2
  refine ⟨fr, ?_⟩
  obtain ⟨R1, R10, a1, a2⟩ := far_all (Sr71.chainOf q) all
  obtain ⟨R2, R20, b1, b2⟩ := far_P h (n + 1) hn
  have t1 : T ((Sr71.chainOf q).map vl) (R1 + R2) = Sr71.turnsBy ((Sr71.chainOf q).map Sr71.atTop) := by
    unfold T
    rw [a1 _ (by grind)]
  have t2 : T ((Sr71.chainOf q).map vl) (-(R1 + R2)) = Sr71.turnsBy ((Sr71.chainOf q).map Sr71.atEnd) := by
    unfold T
    rw [a2 _ (by grind)]
  have t3 : T (Bl (fun t => vl (p t)) (n + 1)) (R1 + R2) = 0 := Bl_top (n + 1) (b1 _ (by grind))
  have t4 : T (Bl (fun t => vl (p t)) (n + 1)) (-(R1 + R2)) = n + 1 := Bl_end (n + 1) (b2 _ (by grind))
  have := (fr (-(R1 + R2)) (R1 + R2) (by grind)).1
  rw [t1, t2, t3, t4] at this
  omega
/-- what's single of it is a multiple of it -/
theorem Og.single (h : Og s p H k) {n : Nat} (hn : n + 1 ≤ k) : Dv (Sr71.single (p (n + 1))) ∧ ∃ g, g ≠ 0 ∧ ∀ i, co (Sr71.single (p (n + 1))) i = g * co (p (n + 1)) i := by
  have dv := h.dv hn
  obtain ⟨_, e2⟩ := h.chain hn dv (g := 1) (by decide) (fun i => by grind)
  obtain ⟨⟨l', el, hh⟩, ch, all, len, e1⟩ := chainOf_ok dv
  have b := turnsBy_le ((Sr71.chainOf (p (n + 1))).map Sr71.atEnd)
  rw [List.length_map] at b
  have l1 := trim_len (Sr71.slope (p (n + 1)))
  have l2 := slope_len (p (n + 1))
  have l3 := h.len (n + 1) hn
  obtain ⟨q, hq, q1⟩ := e1 (by omega) (by omega)
  have dq := all q (List.mem_of_getLast? hq)
  match q, q1, hq, dq with
  | [g], _, hq, dq =>
    have g0 : val g ≠ 0 := fun z => (dq.last (whole 1)).1 ((val_eq_zero (dq.last (whole 1)).2).mp z)
    obtain ⟨k1, k2, k3⟩ := quot_ok dv dq
    have es : Sr71.single (p (n + 1)) = Sr71.trim (Sr71.quot (p (n + 1)) [g]) := by
      unfold Sr71.single
      rw [trim_id dv.tr, List.getLastD_eq_getLast?, hq]
      rfl
    have q0 : Sr71.quot (p (n + 1)) [g] ≠ [] := fun z => by rw [z] at k2; simp at k2; omega
    have tr : Trm (Sr71.quot (p (n + 1)) [g]) := fun c hc => by
      have e : co (Sr71.quot (p (n + 1)) [g]) ((Sr71.quot (p (n + 1)) [g]).length - 1) = val c := by
        rw [co_last q0 zero, List.getLastD_eq_getLast?, hc]
        rfl
      rw [k3, k2, l3, Nat.add_sub_cancel, h.mon (n + 1) hn] at e
      intro z
      have nc : Nf c := k1 c (List.mem_of_getLast? hc)
      rw [(val_eq_zero nc).mpr z] at e
      grind
    rw [es, trim_id tr]
    refine ⟨⟨k1, q0, tr⟩, 1 / val g, by grind, fun i => ?_⟩
    rw [k3]
    grind
/-- how many zeros, of a power above 0 -/
theorem Og.zeros (h : Og s p H k) {n : Nat} (hn : n + 1 ≤ k) : (∀ x y : Frac, Nf x → Nf y → val x < val y → ((Sr71.between (p (n + 1)) x y : Nat) : Int) = (T (Bl (fun t => vl (p t)) (n + 1)) (val x) : Int) - T (Bl (fun t => vl (p t)) (n + 1)) (val y)) ∧ Sr71.roots (p (n + 1)) = n + 1 := by
  obtain ⟨dv, g, hg, hc⟩ := h.single hn
  obtain ⟨f1, f2⟩ := h.chain hn dv hg hc
  obtain ⟨_, _, all, _, _⟩ := chainOf_ok dv
  have tv : ∀ x : Frac, Nf x → Sr71.turnsBy ((Sr71.chain (p (n + 1))).map fun q => Sr71.signOf (Sr71.valueAt q x)) = T ((Sr71.chainOf (Sr71.single (p (n + 1)))).map vl) (val x) := fun x hx => by
    unfold T sgs Sr71.chain
    rw [List.map_map]
    exact congrArg Sr71.turnsBy (List.map_congr_left fun q hq => signOf_is (all q hq).nf hx)
  refine ⟨fun x y hx hy hxy => ?_, ?_⟩
  · obtain ⟨a1, a2⟩ := f1 (val x) (val y) (Rat.le_of_lt hxy)
    unfold Sr71.between
    rw [tv x hx, tv y hy]
    omega
  · unfold Sr71.roots Sr71.chain
    rw [f2]
    omega
end
/-- and of the power 0 -/
theorem chain_one {c : Frac} (hc : Nf c) (h0 : c.n ≠ 0) : (Sr71.chain [c]).length = 1 := by
  have dv : Dv [c] := ⟨fun x hx => by rw [List.mem_singleton.mp hx]; exact hc, by simp, fun d hd => by obtain rfl := Option.some.inj hd; exact h0⟩
  have sl : Sr71.trim (Sr71.slope [c]) = [] := by
    have := trim_len (Sr71.slope [c])
    rw [slope_len] at this
    exact List.length_eq_zero_iff.mp (by simpa using this)
  have e : Sr71.chainOf [c] = [[c]] := by
    unfold Sr71.chainOf
    rw [sl, trim_id dv.tr]
    rfl
  obtain ⟨k1, k2, k3⟩ := quot_ok dv dv
  have es : Sr71.single [c] = Sr71.trim (Sr71.quot [c] [c]) := by
    unfold Sr71.single
    rw [trim_id dv.tr, e]
    rfl
  have sl2 : Sr71.trim (Sr71.slope (Sr71.single [c])) = [] := by
    have h1 := trim_len (Sr71.slope (Sr71.single [c]))
    rw [slope_len] at h1
    have h2 := trim_len (Sr71.quot [c] [c])
    rw [← es, k2] at h2
    exact List.length_eq_zero_iff.mp (by simp at h2; omega)
  unfold Sr71.chain Sr71.chainOf
  rw [sl2]
  rfl
theorem zeros_one {c : Frac} (hc : Nf c) (h0 : c.n ≠ 0) (x y : Frac) : Sr71.between [c] x y = 0 ∧ Sr71.roots [c] = 0 := by
  have l := chain_one hc h0
  unfold Sr71.between Sr71.roots
  generalize Sr71.chain [c] = C at l
  have z : ∀ f : List Frac → Int, Sr71.turnsBy (C.map f) = 0 := fun f => by
    match C, l with
    | [q], _ => exact tb_one _
  rw [z, z, z, z]
  exact ⟨rfl, rfl⟩
end Sm

/-! # The request read call by call -/
namespace Sm
/-- how many whole numbers a call has ahead of its row; which have a row -/
def plain : List Int := [1, 3, 1, 4, 2, 0, 0, 0, 0, 0, 1, 0, 0, 2, 2, 5, 0]
def rowed : List Int := [2, 6, 16]
theorem shape_is {p : Int} {n k : Nat} (h : PySr73.shape p = some (n, k)) : ∃ i : Nat, p = (i : Int) ∧ i < 17 ∧ plain[i]? = some (n : Int) ∧ k = (if rowed.any (fun y => y == p) then 1 else 0) := by
  unfold PySr73.shape at h
  by_cases c0 : p = 0
  · subst c0; simp at h; obtain ⟨rfl, rfl⟩ := h; exact ⟨0, rfl, by decide, rfl, rfl⟩
  rw [if_neg c0] at h
  by_cases c1 : p = 1
  · subst c1; simp at h; obtain ⟨rfl, rfl⟩ := h; exact ⟨1, rfl, by decide, rfl, rfl⟩
  rw [if_neg c1] at h
  by_cases c2 : p = 2
  · subst c2; simp at h; obtain ⟨rfl, rfl⟩ := h; exact ⟨2, rfl, by decide, rfl, rfl⟩
  rw [if_neg c2] at h
  by_cases c3 : p = 3
  · subst c3; simp at h; obtain ⟨rfl, rfl⟩ := h; exact ⟨3, rfl, by decide, rfl, rfl⟩
  rw [if_neg c3] at h
  by_cases c4 : p = 4
  · subst c4; simp at h; obtain ⟨rfl, rfl⟩ := h; exact ⟨4, rfl, by decide, rfl, rfl⟩
  rw [if_neg c4] at h
  by_cases c5 : p = 5
  · subst c5; simp at h; obtain ⟨rfl, rfl⟩ := h; exact ⟨5, rfl, by decide, rfl, rfl⟩
  rw [if_neg c5] at h
  by_cases c6 : p = 6
  · subst c6; simp at h; obtain ⟨rfl, rfl⟩ := h; exact ⟨6, rfl, by decide, rfl, rfl⟩
  rw [if_neg c6] at h
  by_cases c7 : p = 7
  · subst c7; simp at h; obtain ⟨rfl, rfl⟩ := h; exact ⟨7, rfl, by decide, rfl, rfl⟩
  rw [if_neg c7] at h
  by_cases c8 : p = 8
  · subst c8; simp at h; obtain ⟨rfl, rfl⟩ := h; exact ⟨8, rfl, by decide, rfl, rfl⟩
  rw [if_neg c8] at h
  by_cases c9 : p = 9
  · subst c9; simp at h; obtain ⟨rfl, rfl⟩ := h; exact ⟨9, rfl, by decide, rfl, rfl⟩
  rw [if_neg c9] at h
  by_cases c10 : p = 10
  · subst c10; simp at h; obtain ⟨rfl, rfl⟩ := h; exact ⟨10, rfl, by decide, rfl, rfl⟩
  rw [if_neg c10] at h
  by_cases c11 : p = 11
  · subst c11; simp at h; obtain ⟨rfl, rfl⟩ := h; exact ⟨11, rfl, by decide, rfl, rfl⟩
  rw [if_neg c11] at h
  by_cases c12 : p = 12
  · subst c12; simp at h; obtain ⟨rfl, rfl⟩ := h; exact ⟨12, rfl, by decide, rfl, rfl⟩
  rw [if_neg c12] at h
  by_cases c13 : p = 13
  · subst c13; simp at h; obtain ⟨rfl, rfl⟩ := h; exact ⟨13, rfl, by decide, rfl, rfl⟩
  rw [if_neg c13] at h
  by_cases c14 : p = 14
  · subst c14; simp at h; obtain ⟨rfl, rfl⟩ := h; exact ⟨14, rfl, by decide, rfl, rfl⟩
  rw [if_neg c14] at h
  by_cases c15 : p = 15
  · subst c15; simp at h; obtain ⟨rfl, rfl⟩ := h; exact ⟨15, rfl, by decide, rfl, rfl⟩
  rw [if_neg c15] at h
  by_cases c16 : p = 16
  · subst c16; simp at h; obtain ⟨rfl, rfl⟩ := h; exact ⟨16, rfl, by decide, rfl, rfl⟩
  rw [if_neg c16] at h
  cases h
theorem whole_id (c : List (List Int)) : PySr73.whole c = c := by
  unfold PySr73.whole
  split <;> rfl
theorem map_whole (cs : List (List (List Int))) : cs.map PySr73.whole = cs := by
  induction cs with
  | nil => rfl
  | cons c r ih => rw [List.map_cons, ih, whole_id]
/-- the numbers of a row that may be handed in -/
def Bnd : Sr73.Call → Prop
  | .row _ l => ∀ x ∈ l, x.natAbs < 10 ^ 60
  | .mean l => l.length ≤ 70
  | .square l => l.length ≤ 70
  | _ => True
/-- a call of the document -/
def Docd (c : List (List Int)) : Prop := PyFlat.okCall PySr73.shape c ∧ ∃ x, Sr73Neutral.callOf c = some x ∧ Bnd x
theorem asked_call {c : List (List Int)} (h : Sr73Neutral.asked1 c = true) : ∃ x, Sr73Neutral.callOf c = some x ∧ Bnd x := by
  unfold Sr73Neutral.asked1 at h
  split at h
  case h_18 => cases h
  case h_3 =>
    refine ⟨_, rfl, fun x hx => ?_⟩
    rw [Bool.and_eq_true] at h
    have h2 := h.2
    unfold Sr73Neutral.row at h2
    rw [Bool.and_eq_true] at h2
    have h3 := List.all_eq_true.mp h2.1 x hx
    unfold Sr73Neutral.whole at h3
    rw [Bool.and_eq_true] at h3
    have a1 := of_decide_eq_true h3.1
    have a2 := of_decide_eq_true h3.2
    exact Nat.lt_of_le_of_lt (show x.natAbs ≤ 2147483648 by omega) (by decide)
  case h_7 =>
    unfold Sr73Neutral.row at h
    rw [Bool.and_eq_true] at h
    have h2 := of_decide_eq_true h.2
    exact ⟨_, rfl, h2⟩
  case h_17 =>
    unfold Sr73Neutral.row at h
    rw [Bool.and_eq_true] at h
    have h2 := of_decide_eq_true h.2
    exact ⟨_, rfl, h2⟩
  all_goals exact ⟨_, rfl, trivial⟩
theorem asked_inv {l : List Int} (h : PySr73.answers_asked l = true) : ∃ cs, l = PyFlat.put cs ∧ (∀ c ∈ cs, Docd c) ∧ cs.length ≤ 60 ∧
    PySr73.answers l = PyFlat.told (PyFlat.played Sr73Neutral.step Sr73Neutral.start cs) ∧ (PySr73.answers l).length ≤ 10000000 := by
  unfold PySr73.answers_asked at h
  split at h
  · cases h
  · rename_i raw e
    simp only [Bool.and_eq_true] at h
    obtain ⟨⟨⟨⟨h1, h2⟩, h3⟩, h4⟩, h5⟩ := h
    obtain ⟨e1, e2⟩ := PyFlat.put_calls _ _ _ e
    rw [map_whole] at h4
    unfold Sr73Neutral.asked at h4
    simp only [Bool.and_eq_true, List.all_eq_true] at h4
    refine ⟨raw, e1, fun c hc => ⟨e2 c hc, asked_call (h4.2.2 c hc)⟩, of_decide_eq_true h2, ?_, of_decide_eq_true h5⟩
    unfold PySr73.answers PySr73.calls
    rw [e]
    show PyFlat.told (PyFlat.played Sr73Neutral.step Sr73Neutral.start (raw.map PySr73.whole)) = _
    rw [map_whole]
end Sm

/-! # Rules of my own: ints of any size; the end of a row with what a long division asks -/
namespace Sm
open PySem PySem.Spec PyProof.Rows L2
/-- what a division by the long way asks of where one stands -/
structure Far (X : Cx) : Prop where
  sr : X.base.NoSeer
  tr : X.prog.given.tree = none
  dp : X.A.depth + 100 < recursionLimit
  st : X.stack = X.env :: X.outer
  ge : X.env.scope.isGenerator = false
  co : X.env.scope.isCoroutine = false
theorem room_pylong {X : Cx} (F : Far X) {pins : List (Addr × Obj)} {σ : L2.St} {H : Hp} {s : Shared} (I : L2.Inv X pins σ H s) : PylongRoom (model X.prog X.w) X.A s := by
  have fr := I.ok.frames
  rw [F.st] at fr
  exact PylongRoom.of I.nolimit F.dp (SeerAt.of (F.sr.keeps I.bk) F.tr fr F.ge F.co I.ok.blt I.ok.glob)
/-- // of ints of any size, the divisor not 0 -/
theorem op_fdivA {X : Cx} (F : Far X) : OpR X (binaryOp .FloorDiv) (rI (fun _ j => j ≠ 0) fun i j => .int (i.fdiv j)) := by
  intro pins s σ H x y v u Q I rx ry h
  obtain ⟨i, j, rfl, rfl, hc, q⟩ := h
  obtain ⟨t, rfl⟩ := rx
  obtain ⟨t', rfl⟩ := ry
  exact floordiv_int hc ⟨V.int (i.fdiv j), H, I.tok _, ⟨_, rfl⟩, q⟩ (.inr (room_pylong F I))
/-- the size of an int that may be multiplied -/
def Fit (i : Int) : Prop := i.natAbs < 2 ^ 67108000
theorem log_fit {i : Int} (h : Fit i) : i.natAbs.log2 < 67108000 := by
  by_cases z : i.natAbs = 0
  · rw [z]
    exact Nat.lt_of_le_of_lt (Nat.le_of_eq Nat.log2_zero) (by decide)
  · exact (Nat.log2_lt z).mpr h
theorem mulOk_fit {i j : Int} (hi : Fit i) (hj : Fit j) : IntMulOk i j := by
  have a := log_fit hi
  have b := log_fit hj
  have bits : ∀ x : Int, Builtin.Int.intBits x ≤ x.natAbs.log2 + 1 := by
    intro x
    unfold Builtin.Int.intBits
    split
    · omega
    · omega
  have c := bits i
  have d := bits j
  intro z
  have z2 := (Bool.and_eq_true_iff.mp z).2
  unfold Builtin.Int.intTooBig at z2
  have z3 := of_decide_eq_true z2
  have e : bitsLine = 134217728 := by decide
  rw [e] at z3
  omega
theorem op_mulA {X : Cx} : OpR X (binaryOp .Mult) (rI (fun i j => Fit i ∧ Fit j) fun i j => .int (i * j)) :=
  opI fun _ _ _ _ _ _ _ hc q => mul_int q (mulOk_fit hc.1 hc.2)
end Sm

/-! # The end of a Spec row, with NoSeer handed on to the promise -/
namespace Sm
open PySem PySem.Spec PyProof.Rows L2
open PySem.W (WData Codec OpenSpec Well WellAll ReadsW)
/-- no dict and no module is among the arguments' objects -/
theorem not_arg {K : PySem.W.Frag} {hp : Heap} {As : List Addr} (ar : ∀ a ∈ As, ArgOb hp As a) {b : Addr} {ob : Obj} (e : hp.get? b = some ob)
    (nl : ob.cls ≠ .type "list") (nt : ob.cls ≠ .type "tuple") : argH K hp As b = none := by
  cases z : argH K hp As b with
  | none => rfl
  | some u =>
    obtain ⟨_, xs, _, _, c⟩ := argH_is ar z
    rcases c with ⟨e2, _⟩ | ⟨e2, _⟩
    all_goals
      rw [e2] at e
      obtain rfl := Option.some.inj e
    · exact absurd rfl nl
    · exact absurd rfl nt
theorem not_argD {K : PySem.W.Frag} {hp : Heap} {As : List Addr} (ar : ∀ a ∈ As, ArgOb hp As a) {b : Addr} {m : Str → Option Value} (e : hp.Ns b m) : argH K hp As b = none := by
  obtain ⟨ob, es, ep, e1, e3, _⟩ := e
  cases z : argH K hp As b with
  | none => rfl
  | some u =>
    obtain ⟨_, xs, _, _, c⟩ := argH_is ar z
    rcases c with ⟨e2, _⟩ | ⟨e2, _⟩
    all_goals
      rw [e2] at e1
      obtain rfl := Option.some.inj e1
      exact Data.noConfusion e3
theorem hid_ns {hp : Heap} {J : Hp} {b : Addr} {m : Str → Option Value} (n : J b = none) (e : hp.Ns b m) : (hidT hp J).Ns b m := by
  obtain ⟨ob, es, ep, e1, r⟩ := e
  exact ⟨ob, es, ep, hidT_get e1 n, r⟩
theorem hid_seer {K : PySem.W.Frag} {hp : Heap} {As : List Addr} (ar : ∀ a ∈ As, ArgOb hp As a) (N : hp.NoSeer) : (hidT hp (argH K hp As)).NoSeer := by
  obtain ⟨⟨mc, c1, c2⟩, ⟨mm, d1, d2⟩, ⟨mb, b1, b2⟩, ⟨mg, bm, ob, g1, g2, g3, g4, g5⟩⟩ := N
  refine ⟨⟨mc, hid_ns (not_argD ar c1) c1, c2⟩, ⟨mm, hid_ns (not_argD ar d1) d1, d2⟩, ⟨mb, hid_ns (not_argD ar b1) b1, b2⟩, ⟨mg, bm, ob, hid_ns (not_argD ar g1) g1, g2, ?_, g4, g5⟩⟩
  refine hidT_get g3 (not_arg ar g3 ?_ ?_)
  · rw [g4]; intro z; exact absurd (Value.type.inj z) (by decide)
  · rw [g4]; intro z; exact absurd (Value.type.inj z) (by decide)
/-- the call of the row's def -/
theorem call_far {P : Program} {w : World} {K : PySem.W.Frag} {mg mb : Str → Option Value} {k : Nat} {fa : Addr} {fd : FuncData} {ps : List Str} {sp : Sp} {t : Shared}
    {us : List Value} {ds : List WData} {R : PySem.W.WRecords} {cl : Str → Option Addr} {d0 : WData}
    (kin : K.In t.heap) (gl : t.heap.Ns mainGlobals mg) (bl : t.heap.Ns builtinsNs mb) (bb : ∀ x : Str, x ≠ "__name__" → mb x = bootBuiltins x)
    (lim : t.heap.NoLimit) (N : t.heap.NoSeer) (gens : t.gens = #[]) (wl : WellAll w.params t.heap us ds) (pl : plWs ds = true)
    (wt : ∀ d ∈ ds, d.weight ≤ 1048576) (hr : Room k callerA)
    (F : ∀ base : Heap, K.In base → base.Ns mainGlobals mg → base.NoSeer → FnOk P w K mg base CX0 k fa fd ps sp)
    (bd : ∀ (s : Shared) (vs : List Value), vs.length = ps.length → BindsTo s fd ⟨vs, []⟩ (ps.zip vs)) (len : ds.length = ps.length)
    (prom : ∀ (H : Hp) (xs : List V), OnlyF H → DwAll K H xs ds → sp xs H (fun v H' => Dw K H' v d0) fun _ _ _ => False) :
    codeAny (model P w) callerA (.call (.ref fa) ⟨us, []⟩)
      (fun r t' => ∃ u as, r = .ok (.ret u) ∧ ReadsW R cl t'.heap u d0 as ∧ OldK t.heap t'.heap ∧ t'.os = t.os ∧ AllBare t'.gens) t := by
  obtain ⟨As, ok, ar⟩ := area_all ds us wl pl wt
  have only : OnlyF (argH K t.heap As) := argH_only ar
  have hoks : HOk P w (argH K t.heap As) t.heap := argH_ok ar
  have dws := dw_all kin ar ds us wl pl ok
  have rel := vals_toV ok
  have off : ∀ b u, argH K t.heap As b = some u → K.lookup b = none := fun b u z => (argH_is ar z).1
  have seer := hid_seer (K := K) ar N
  have nsG := hid_ns (not_argD (K := K) ar gl) gl
  have nsB := hid_ns (not_argD (K := K) ar bl) bl
  have nsL : (hidT t.heap (argH K t.heap As)).NoLimit := by
    obtain ⟨mc, l1, l2⟩ := lim
    exact ⟨mc, hid_ns (not_argD ar l1) l1, l2⟩
  generalize argH K t.heap As = J at only hoks dws off seer nsG nsB nsL
  have kinB : K.In (hidT t.heap J) := by
    intro b ob e
    refine hidT_get (kin b ob e) ?_
    cases z : J b with
    | none => rfl
    | some u =>
      rw [off b u z] at e
      cases e
  have md : Mod K mg (hidT t.heap J) := { kin := kinB, glob := nsG, blt := ⟨mb, nsB, bb⟩, nolimit := nsL }
  have env : Env0 P w K mg (hidT t.heap J) callerA [] t J :=
    { frames := rfl, mod := md, bs := fun b ob e => of_hidT e, bsz := Nat.le_of_eq (hidT_size _ _), funs := trivial
      frf := fun b z => absurd (show b ∈ ([] : List Addr) from z) List.not_mem_nil, hok := hoks, bare := .of_eq gens }
  have lus : us.length = ps.length := (wellAll_len wl).trans len
  refine codeAny_mono ((F _ kinB nsG seer).run callerA [] t J ⟨us, []⟩ us (us.map toV) _ _ hr env (bd t us lus) rel (prom J _ only dws)) ?_
  intro r t' out
  match r, out with
  | .error e, out => exact False.elim out
  | .ok .next, out => exact False.elim out
  | .ok .brk, out => exact False.elim out
  | .ok .cont, out => exact False.elim out
  | .ok (.ret u), ⟨v, J', os, bare, un, hoks', rv, q⟩ =>
    have kept : ∀ b ob, t.heap.get? b = some ob → t'.heap.get? b = some ob := by
      intro b ob e
      rcases only b with z | ⟨ob2, u2, z⟩
      · exact un.keep b ob e z (fun z2 => absurd (show b ∈ ([] : List Addr) from z2) List.not_mem_nil) List.not_mem_nil
      · obtain ⟨e1, _⟩ := hoks b _ z
        obtain ⟨e2, _⟩ := hoks' b _ (un.frzs b ob2 _ z)
        rw [e] at e1
        obtain rfl := Option.some.inj e1
        exact e2
    obtain ⟨as, hrd⟩ := Dw.reads (R := R) (cl := cl) hoks' (fun b ob e => kept b ob (kin b ob e)) d0 v u q rv
    exact ⟨u, as, rfl, hrd, OldK.of_keep kept, os, bare⟩
/-- the goal that k_headS leaves, from the promise of the row's def; the promise may lean on NoSeer -/
theorem walk_far {r : OpenSpec} {k : Nat} {q : Program} {loose : List Str} {XP : (Str → Option Value) → Heap → Prop} {YP : World → Heap → Prop} {d : DefRec} {K : Params → PySem.W.Frag}
    {ps : List Str} {sp : PySem.W.Frag → Sp} (imp : importsNone q = true) (well : r.wellSaid = true) (df : d.params.defaults = []) (len : r.args.length = ps.length) (hr : Room k callerA)
    (hY : ∀ (w : World) (h : Heap), YP w h → (K w.params).In h)
    (F : ∀ (w : World) (mg : Str → Option Value) (fa : Addr) (h : Heap), YP w h → (K w.params).In h → h.Ns mainGlobals mg → mg d.name = some (.ref fa) →
      ∃ fd : FuncData, (∀ (s : Shared) (vs : List Value), vs.length = ps.length → BindsTo s fd ⟨vs, []⟩ (ps.zip vs)) ∧
        ∀ base : Heap, (K w.params).In base → base.Ns mainGlobals mg → base.NoSeer → FnOk r.prog w (K w.params) mg base CX0 k fa fd ps (sp (K w.params)))
    (prom : ∀ (K : PySem.W.Frag) (H : Hp) (xs : List V) (a : Codec.denoteAll r.args), OnlyF H → Codec.withinAll r.args a = true → Codec.app r.args r.asked a = true →
      DwAll K H xs (Codec.encAll r.args a) → sp K xs H (fun v H' => Dw K H' v (r.ret.enc (Codec.app r.args r.f a))) fun _ _ _ => False) :
    PySem.W.WalkOS q loose XP YP r d [] (fun f vs => PySem.call f vs) := by
  intro w t0 t1 mg mb G Y fa o pm cd doc dV kV ho hd hcd hD hmg hg args vals as hpre hlay hrd hwl hlo
  obtain ⟨a, e1, e2⟩ := PySem.W.os_pre_some hpre
  obtain ⟨rfl, win⟩ := Codec.encAll_of_decAll r.args args a e1
  obtain ⟨fd, bd, FF⟩ := F w mg fa _ Y (hY w _ Y) G.T.g hmg
  have base := call_far (R := []) (cl := classAt t0.heap) (d0 := r.ret.enc (Codec.app r.args r.f a)) (hY w _ Y) G.T.g G.T.b G.T.builtins G.T.nolimit (G.T.seer imp) hg hwl
    (pl_encAll _ _) (layable_weight hlay) hr FF bd ((encAll_len _ _).trans len) (fun H xs hO hS => prom (K w.params) H xs a hO win e2 hS)
  refine PySem.W.enter_call (codeAny_mono base ?_)
  rintro res t2 ⟨u, as2, rfl, h1, h2, h3, h4⟩
  exact ⟨.inl ⟨u, _, as2, rfl, fun _ => rfl, h1, (OpenSpec.post_iff well win _ _).mpr rfl, fun z => Bool.noConfusion (show false = true from z)⟩, h2, h3, h4⟩
end Sm

/-! # Readings by what they evaluate to -/
namespace Sm
open PySem PySem.Spec PyProof.Rows L2 Evl
open Sr58 (Frac)
abbrev PV := V → Hp → Prop
abbrev PA' := List V → Hp → Prop
/-- stays while the heap grows -/
def Mo (R : PV) : Prop := ∀ v H H', Ex H H' → R v H → R v H'
def MoA (A : PA') : Prop := ∀ vs H H', Ex H H' → A vs H → A vs H'
/-- the value is v -/
def Is (v : V) : PV := fun u _ => u = v
theorem mo_is (v : V) : Mo (Is v) := fun _ _ _ _ h => h
/-- a tuple of xs -/
def Tu (K : PySem.W.Frag) (xs : List V) : PV := fun v H => ∃ a, v = .ref a ∧ SqT K H a xs
theorem mo_tu (K : PySem.W.Frag) (xs : List V) : Mo (Tu K xs) := fun _ _ _ e ⟨a, h, q⟩ => ⟨a, h, ex_t e q⟩
/-- a fraction -/
def Fr (K : PySem.W.Frag) (x : Frac) : PV := Tu K [.int x.n, .int (x.d : Int)]
theorem mo_fr {K : PySem.W.Frag} {x : Frac} : Mo (Fr K x) := mo_tu K _
/-- fractions, one by one -/
def Fs (K : PySem.W.Frag) (H : Hp) : List V → List Frac → Prop
  | [], [] => True
  | v :: vs, x :: xs => Fr K x v H ∧ Fs K H vs xs
  | _, _ => False
theorem Fs.mono {K : PySem.W.Frag} {H H' : Hp} (e : Ex H H') : ∀ {vs : List V} {xs : List Frac}, Fs K H vs xs → Fs K H' vs xs
  | [], [], _ => trivial
  | _ :: _, _ :: _, ⟨h, r⟩ => ⟨mo_fr _ _ _ e h, Fs.mono e r⟩
  | [], _ :: _, h => h.elim
  | _ :: _, [], h => h.elim
theorem Fs.len {K : PySem.W.Frag} {H : Hp} : ∀ {vs : List V} {xs : List Frac}, Fs K H vs xs → vs.length = xs.length
  | [], [], _ => rfl
  | _ :: _, _ :: _, ⟨_, r⟩ => congrArg (· + 1) (Fs.len r)
  | [], _ :: _, h => h.elim
  | _ :: _, [], h => h.elim
theorem Fs.at {K : PySem.W.Frag} {H : Hp} : ∀ {vs : List V} {xs : List Frac} {i : Nat}, Fs K H vs xs → i < xs.length → ∃ v, vs[i]? = some v ∧ Fr K (xs.getD i Sr66.zero) v H
  | v :: _, x :: _, 0, ⟨h, _⟩, _ => ⟨v, rfl, h⟩
  | _ :: _, _ :: _, i + 1, ⟨_, r⟩, hi => Fs.at (i := i) r (Nat.lt_of_succ_lt_succ hi)
  | [], [], _, _, hi => absurd hi (Nat.not_lt_zero _)
  | [], _ :: _, _, h, _ => h.elim
  | _ :: _, [], _, h, _ => h.elim
theorem Fs.app {K : PySem.W.Frag} {H : Hp} : ∀ {vs us : List V} {xs ys : List Frac}, Fs K H vs xs → Fs K H us ys → Fs K H (vs ++ us) (xs ++ ys)
  | [], _, [], _, _, h => h
  | _ :: _, _, _ :: _, _, ⟨h, r⟩, q => ⟨h, Fs.app r q⟩
  | [], _, _ :: _, _, h, _ => h.elim
  | _ :: _, _, [], _, h, _ => h.elim
theorem Fs.one {K : PySem.W.Frag} {H : Hp} {v : V} {x : Frac} (h : Fr K x v H) : Fs K H [v] [x] := ⟨h, trivial⟩
theorem Fs.set {K : PySem.W.Frag} {H : Hp} {v : V} {x : Frac} (hv : Fr K x v H) : ∀ {vs : List V} {xs : List Frac} {i : Nat}, Fs K H vs xs → Fs K H (vs.set i v) (xs.set i x)
  | [], [], _, _ => trivial
  | _ :: _, _ :: _, 0, ⟨_, r⟩ => ⟨hv, r⟩
  | _ :: _, _ :: _, i + 1, ⟨h, r⟩ => ⟨h, Fs.set hv (i := i) r⟩
  | [], _ :: _, _, h => h.elim
  | _ :: _, [], _, h => h.elim
/-- a list of fractions -/
def FrL (K : PySem.W.Frag) (xs : List Frac) : PV := fun v H => ∃ a vs, v = .ref a ∧ H a = some (.lst vs) ∧ Fs K H vs xs
theorem mo_frl {K : PySem.W.Frag} {xs : List Frac} : Mo (FrL K xs) := fun _ _ _ e ⟨a, vs, h, q, r⟩ => ⟨a, vs, h, e _ _ q, r.mono e⟩
/-- a new one, that was not in H0 -/
def FrN (K : PySem.W.Frag) (xs : List Frac) (H0 : Hp) : PV := fun v H => ∃ a vs, v = .ref a ∧ H0 a = none ∧ H a = some (.lst vs) ∧ Fs K H vs xs
theorem mo_frn {K : PySem.W.Frag} {xs : List Frac} {H0 : Hp} : Mo (FrN K xs H0) := fun _ _ _ e ⟨a, vs, h, n, q, r⟩ => ⟨a, vs, h, n, e _ _ q, r.mono e⟩
theorem frn_l {K : PySem.W.Frag} {xs : List Frac} {H0 : Hp} {v : V} {H : Hp} (h : FrN K xs H0 v H) : FrL K xs v H := by
  obtain ⟨a, vs, h, _, q, r⟩ := h
  exact ⟨a, vs, h, q, r⟩
theorem none_back {H H' : Hp} {a : Addr} (e : Ex H H') (h : H' a = none) : H a = none := fresh_back e h
/-- a list's change leaves fractions, and other lists -/
theorem fr_upd {K : PySem.W.Frag} {x : Frac} {v : V} {H : Hp} {l : Addr} {ys zs : List V} (hl : H l = some (.lst ys)) (h : Fr K x v H) : Fr K x v (upd H l (.lst zs)) := by
  obtain ⟨a, rfl, q⟩ := h
  refine ⟨a, rfl, ?_⟩
  have ne : Rd H a (.tup [.int x.n, .int (x.d : Int)]) → a ≠ l := fun r z => by
    subst z
    rcases r with r | ⟨o, r⟩
    · rw [hl] at r; cases r
    · rw [hl] at r; cases r
  rcases q with r | r
  · have n := ne r
    rcases r with r | ⟨o, r⟩
    · exact .inl (.inl (by rw [upd_ne n]; exact r))
    · exact .inl (.inr ⟨o, by rw [upd_ne n]; exact r⟩)
  · exact .inr r
theorem fs_upd {K : PySem.W.Frag} {H : Hp} {l : Addr} {ys zs : List V} (hl : H l = some (.lst ys)) : ∀ {vs : List V} {xs : List Frac}, Fs K H vs xs → Fs K (upd H l (.lst zs)) vs xs
  | [], [], _ => trivial
  | _ :: _, _ :: _, ⟨h, r⟩ => ⟨fr_upd hl h, fs_upd hl r⟩
  | [], _ :: _, h => h.elim
  | _ :: _, [], h => h.elim
/-- te gives something of which R holds, and only makes new things -/
def EvP (te : TE) (σ : L2.St) (H : Hp) (R : PV) : Prop := ∀ H1, Ex H H1 → ∀ Q : VK, (∀ v H2, Ex H1 H2 → R v H2 → Q v H2) → te σ H1 Q
def EvAP (ta : TA) (σ : L2.St) (H : Hp) (A : PA') : Prop := ∀ H1, Ex H H1 → ∀ Q : List V → Hp → Prop, (∀ vs H2, Ex H1 H2 → A vs H2 → Q vs H2) → ta σ H1 Q
def EvTP (tt : TT) (σ : L2.St) (H : Hp) (b : Bool) : Prop := ∀ H1, Ex H H1 → ∀ Q : Bool → Hp → Prop, (∀ H2, Ex H1 H2 → Q b H2) → tt σ H1 Q
section
variable {K : PySem.W.Frag} {σ : L2.St} {H H' : Hp} {v x y : V} {R R' : PV} {te ta tb tc : TE} {r : R2}
theorem EvP.mono (e : Ex H H') (h : EvP te σ H R) : EvP te σ H' R := fun H1 a Q q => h H1 (e.trans a) Q q
theorem EvAP.mono {t : TA} {A : PA'} (e : Ex H H') (h : EvAP t σ H A) : EvAP t σ H' A := fun H1 a Q q => h H1 (e.trans a) Q q
theorem EvP.imp (h : EvP te σ H R) (i : ∀ v H, R v H → R' v H) : EvP te σ H R' := fun H1 a Q q => h H1 a Q fun v H2 e r => q v H2 e (i v H2 r)
theorem EvP.run {Q : VK} (h : EvP te σ H R) (q : ∀ v H1, Ex H H1 → R v H1 → Q v H1) : te σ H Q := h H (Ex.refl H) Q q
theorem ep_var {i : Nat} (h : σ[i]? = some (some v)) (hR : R v H) (m : Mo R) : EvP (tVar i) σ H R := fun H1 e _ q => ⟨v, h, q v H1 (Ex.refl H1) (m v H H1 e hR)⟩
theorem ep_v {i : Nat} (h : σ[i]? = some (some v)) : EvP (tVar i) σ H (Is v) := ep_var h rfl (mo_is v)
theorem ep_c : EvP (tC v) σ H (Is v) := fun H1 _ _ q => q v H1 (Ex.refl H1) rfl
theorem ep_cR (h : ∀ H, R v H) : EvP (tC v) σ H R := fun H1 _ _ q => q v H1 (Ex.refl H1) (h H1)
theorem ep_op0 {g : Int → Int → V} {i j : Int} (ha : EvP ta σ H (Is (.int i))) (hb : EvP tb σ H (Is (.int j))) : EvP (tOp (rI0 g) ta tb) σ H (Is (g i j)) := fun H1 e Q q =>
  ha H1 e _ fun a H2 e2 ea => hb H2 (e.trans e2) _ fun b H3 e3 eb => ⟨i, j, ea, eb, q _ H3 (e2.trans e3) rfl⟩
theorem ep_opC {C : Int → Int → Prop} {g : Int → Int → V} {i j : Int} (ha : EvP ta σ H (Is (.int i))) (hb : EvP tb σ H (Is (.int j))) (hc : C i j) : EvP (tOp (rI C g) ta tb) σ H (Is (g i j)) := fun H1 e Q q =>
  ha H1 e _ fun a H2 e2 ea => hb H2 (e.trans e2) _ fun b H3 e3 eb => ⟨i, j, ea, eb, hc, q _ H3 (e2.trans e3) rfl⟩
theorem ep_neg {i : Int} (ha : EvP ta σ H (Is (.int i))) : EvP (tUn (rU fun i => .int (-i)) ta) σ H (Is (.int (-i))) := fun H1 e Q q =>
  ha H1 e _ fun a H2 e2 ea => ⟨i, ea, q _ H2 e2 rfl⟩
theorem ep_ixT {xs : List V} {i : Int} (ha : EvP ta σ H (Tu K xs)) (hb : EvP tb σ H (Is (.int i))) (h : atI xs i = some v) : EvP (tOp (rIxT K) ta tb) σ H (Is v) := fun H1 e Q q =>
  ha H1 e _ fun a H2 e2 ⟨p, ea, sq⟩ => hb H2 (e.trans e2) _ fun b H3 e3 eb => ⟨p, xs, i, v, ea, eb, ex_t e3 sq, h, q _ H3 (e2.trans e3) rfl⟩
theorem ep_num {f : Frac} (ha : EvP ta σ H (Fr K f)) : EvP (tOp (rIxT K) ta (tC (.int 0))) σ H (Is (.int f.n)) := ep_ixT ha ep_c rfl
theorem ep_den {f : Frac} (ha : EvP ta σ H (Fr K f)) : EvP (tOp (rIxT K) ta (tC (.int 1))) σ H (Is (.int (f.d : Int))) := ep_ixT ha ep_c rfl
theorem ep_ixF {xs : List Frac} {i : Nat} (ha : EvP ta σ H (FrL K xs)) (hb : EvP tb σ H (Is (.int (i : Int)))) (h : i < xs.length) : EvP (tOp (rIxL K) ta tb) σ H (Fr K (xs.getD i Sr66.zero)) := fun H1 e Q q =>
  ha H1 e _ fun a H2 e2 ⟨p, vs, ea, sq, fs⟩ => hb H2 (e.trans e2) _ fun b H3 e3 eb => by
    obtain ⟨v, hv, fv⟩ := (fs.mono e3).at h
    exact ⟨p, vs, i, v, ea, eb, sq_of (e3 _ _ sq), atI_nat hv, q _ H3 (e2.trans e3) fv⟩
theorem ea_0 : EvAP tNil σ H (fun vs _ => vs = []) := fun H1 _ _ q => q [] H1 (Ex.refl H1) rfl
def AC (R : PV) (A : PA') : PA' := fun vs H => ∃ v r, vs = v :: r ∧ R v H ∧ A r H
def A0 : PA' := fun vs _ => vs = []
theorem ea_c {tr : TA} {A : PA'} (h : EvP ta σ H R) (m : Mo R) (hr : EvAP tr σ H A) : EvAP (tCons ta tr) σ H (AC R A) := fun H1 e Q q =>
  h H1 e _ fun v H2 e2 rv => hr H2 (e.trans e2) _ fun vs H3 e3 av => q (v :: vs) H3 (e2.trans e3) ⟨v, vs, rfl, m v H2 H3 e3 rv, av⟩
theorem ea_n : EvAP tNil σ H A0 := ea_0
/-- a promise of a def that only makes new things -/
def spF {α : Type} (Pre : α → Prop) (A : α → PA') (R : α → PV) : Sp := fun vs H Q _ => ∃ a, Pre a ∧ A a vs H ∧ ∀ v H', Ex H H' → R a v H' → Q v H'
theorem ep_call {α : Type} {Pre : α → Prop} {A : α → PA'} {R : α → PV} {t : TA} (a : α) (hp : Pre a) (h : EvAP t σ H (A a)) : EvP (tCall (spF Pre A R) [] E0 t) σ H (R a) := fun H1 e Q q =>
  h H1 e _ fun vs H2 e2 av => ⟨a, hp, by rw [List.append_nil]; exact av, fun v H3 e3 rv => q v H3 (e2.trans e3) rv⟩
theorem ep_tup {t : TA} {A : PA'} (h : EvAP t σ H A) (hl : ∀ vs H, A vs H → vs.length ≤ sizeLine) (hR : ∀ p vs H H', A vs H → Ex H H' → H' p = some (.tup vs) → R (.ref p) H') : EvP (tTup t) σ H R := fun H1 e Q q =>
  h H1 e _ fun vs H2 e2 av => ⟨hl vs H2 av, fun p hp => q _ _ (e2.trans (Ex.new hp)) (hR p vs H2 _ av (Ex.new hp) upd_same)⟩
theorem ep_lst {t : TA} {A : PA'} (h : EvAP t σ H A) (hl : ∀ vs H, A vs H → vs.length ≤ sizeLine) (hR : ∀ p vs H H', A vs H → Ex H H' → H' p = some (.lst vs) → R (.ref p) H') : EvP (tLst t) σ H R := fun H1 e Q q =>
  h H1 e _ fun vs H2 e2 av => ⟨hl vs H2 av, fun p hp => q _ _ (e2.trans (Ex.new hp)) (hR p vs H2 _ av (Ex.new hp) upd_same)⟩
/-- a built-in's call -/
theorem ep_cb {r : List V → Hp → VK → Prop} {t : TA} {A : PA'} (h : EvAP t σ H A) (hr : ∀ vs H1 Q, A vs H1 → (∀ v H2, Ex H1 H2 → R v H2 → Q v H2) → r vs H1 Q) : EvP (tCB r t) σ H R := fun H1 e Q q =>
  h H1 e _ fun vs H2 e2 av => hr vs H2 Q av fun v H3 e3 rv => q v H3 (e2.trans e3) rv
/-! statements -/
variable {D : Ends}
theorem sp_asg {i : Nat} (h : EvP te σ H R) (k : ∀ v H1, Ex H H1 → R v H1 → D.nx (σ.set i (some v)) H1) : tAsg te (gName i) D σ H := h.run k
theorem sp_asgG {g : TG} (h : EvP te σ H R) (k : ∀ v H1, Ex H H1 → R v H1 → g v σ H1 D.nx) : tAsg te g D σ H := h.run k
theorem sp_ret (h : EvP te σ H R) (k : ∀ v H1, Ex H H1 → R v H1 → D.rt v H1) : tRet te D σ H := h.run k
end
section
variable {K : PySem.W.Frag} {σ : L2.St} {H H' : Hp} {v x y : V} {R R' : PV} {te ta tb tc : TE} {r : R2} {D : Ends} {b c : Bool} {t u : TT} {t1 t2 : TS}
theorem ite_t {c : Bool} {A B : Prop} (hc : c = true) (h : A) : if c = true then A else B := by rw [if_pos hc]; exact h
theorem ite_f {c : Bool} {A B : Prop} (hc : c = false) (h : B) : if c = true then A else B := by rw [hc, if_neg Bool.false_ne_true]; exact h
theorem et_t (h : EvP te σ H (Is (.bl b))) : EvTP (tTest te) σ H b := fun H1 e Q q => h H1 e _ fun v H2 e2 r => ⟨b, r, q H2 e2⟩
theorem et_b (h : EvP te σ H (Is (.bl b))) : EvTP (tB te) σ H b := fun H1 e Q q => h H1 e _ fun v H2 e2 r => ⟨b, r, q H2 e2⟩
theorem et_not' (h : EvTP t σ H b) : EvTP (tNot t) σ H (!b) := fun H1 e Q q => h H1 e _ fun H2 e2 => q H2 e2
theorem et_or' (h : EvTP t σ H b) (h2 : b = false → EvTP u σ H c) : EvTP (tOr t u) σ H (b || c) := fun H1 e Q q => h H1 e _ fun H2 e2 => by
  cases b with
  | true => exact ite_t rfl (q H2 e2)
  | false => exact ite_f rfl (h2 rfl H2 (e.trans e2) Q fun H3 e3 => q H3 (e2.trans e3))
theorem et_and' (h : EvTP t σ H b) (h2 : b = true → EvTP u σ H c) : EvTP (tAnd t u) σ H (b && c) := fun H1 e Q q => h H1 e _ fun H2 e2 => by
  cases b with
  | true => exact ite_t rfl (h2 rfl H2 (e.trans e2) Q fun H3 e3 => q H3 (e2.trans e3))
  | false => exact ite_f rfl (q H2 e2)
theorem EvTP.to (h : EvTP t σ H b) (e : b = c) : EvTP t σ H c := e ▸ h
theorem EvP.to (h : EvP te σ H (Is x)) (e : x = y) : EvP te σ H (Is y) := e ▸ h
theorem ep_eq {i j : Int} (ha : EvP ta σ H (Is (.int i))) (hb : EvP tb σ H (Is (.int j))) : EvP (tOp rEq ta tb) σ H (Is (.bl (decide (i = j)))) := fun H1 e Q q =>
  ha H1 e _ fun a H2 e2 ea => hb H2 (e.trans e2) _ fun b H3 e3 eb => by
    obtain rfl : a = _ := ea
    obtain rfl : b = _ := eb
    refine ⟨rfl, q _ H3 (e2.trans e3) ?_⟩
    show V.bl (decide (V.int i = V.int j)) = V.bl (decide (i = j))
    congr 1
    exact decide_eq_decide.mpr ⟨V.int.inj, fun z => by rw [z]⟩
theorem ep_ne {i j : Int} (ha : EvP ta σ H (Is (.int i))) (hb : EvP tb σ H (Is (.int j))) : EvP (tOp rNe ta tb) σ H (Is (.bl (!decide (i = j)))) := fun H1 e Q q =>
  ha H1 e _ fun a H2 e2 ea => hb H2 (e.trans e2) _ fun b H3 e3 eb => by
    obtain rfl : a = _ := ea
    obtain rfl : b = _ := eb
    refine ⟨rfl, q _ H3 (e2.trans e3) ?_⟩
    show V.bl (!decide (V.int i = V.int j)) = V.bl (!decide (i = j))
    congr 2
    exact decide_eq_decide.mpr ⟨V.int.inj, fun z => by rw [z]⟩
theorem ep_add {i j : Int} (ha : EvP ta σ H (Is (.int i))) (hb : EvP tb σ H (Is (.int j))) : EvP (tOp (rI0 fun i j => .int (i + j)) ta tb) σ H (Is (.int (i + j))) := ep_op0 (g := fun i j => .int (i + j)) ha hb
theorem ep_sub {i j : Int} (ha : EvP ta σ H (Is (.int i))) (hb : EvP tb σ H (Is (.int j))) : EvP (tOp (rI0 fun i j => .int (i - j)) ta tb) σ H (Is (.int (i - j))) := ep_op0 (g := fun i j => .int (i - j)) ha hb
theorem ep_mul {i j : Int} (ha : EvP ta σ H (Is (.int i))) (hb : EvP tb σ H (Is (.int j))) (hi : Fit i) (hj : Fit j) : EvP (tOp (rI (fun i j => Fit i ∧ Fit j) fun i j => .int (i * j)) ta tb) σ H (Is (.int (i * j))) := ep_opC (g := fun i j => .int (i * j)) ha hb ⟨hi, hj⟩
theorem ep_lt {i j : Int} (ha : EvP ta σ H (Is (.int i))) (hb : EvP tb σ H (Is (.int j))) : EvP (tOp (rI0 fun i j => .bl (decide (i < j))) ta tb) σ H (Is (.bl (decide (i < j)))) := ep_op0 (g := fun i j => .bl (decide (i < j))) ha hb
theorem ep_le {i j : Int} (ha : EvP ta σ H (Is (.int i))) (hb : EvP tb σ H (Is (.int j))) : EvP (tOp (rI0 fun i j => .bl (decide (i ≤ j))) ta tb) σ H (Is (.bl (decide (i ≤ j)))) := ep_op0 (g := fun i j => .bl (decide (i ≤ j))) ha hb
theorem ep_gt {i j : Int} (ha : EvP ta σ H (Is (.int i))) (hb : EvP tb σ H (Is (.int j))) : EvP (tOp (rI0 fun i j => .bl (decide (j < i))) ta tb) σ H (Is (.bl (decide (j < i)))) := ep_op0 (g := fun i j => .bl (decide (j < i))) ha hb
theorem ep_ge {i j : Int} (ha : EvP ta σ H (Is (.int i))) (hb : EvP tb σ H (Is (.int j))) : EvP (tOp (rI0 fun i j => .bl (decide (j ≤ i))) ta tb) σ H (Is (.bl (decide (j ≤ i)))) := ep_op0 (g := fun i j => .bl (decide (j ≤ i))) ha hb
theorem ep_or (ha : EvP ta σ H (Is (.bl b))) (hb : b = false → EvP tb σ H (Is (.bl c))) : EvP (tOrV ta tb) σ H (Is (.bl (b || c))) := fun H1 e Q q => ha H1 e _ fun v H2 e2 ea => ⟨b, ea, by
  cases b with
  | true => exact ite_t rfl (q _ H2 e2 rfl)
  | false => exact ite_f rfl (hb rfl H2 (e.trans e2) Q fun v H3 e3 r => q v H3 (e2.trans e3) r)⟩
theorem ep_and (ha : EvP ta σ H (Is (.bl b))) (hb : b = true → EvP tb σ H (Is (.bl c))) : EvP (tAndV ta tb) σ H (Is (.bl (b && c))) := fun H1 e Q q => ha H1 e _ fun v H2 e2 ea => ⟨b, ea, by
  cases b with
  | true => exact ite_t rfl (hb rfl H2 (e.trans e2) Q fun v H3 e3 r => q v H3 (e2.trans e3) r)
  | false => exact ite_f rfl (q _ H2 e2 rfl)⟩
/-- lo <= e <= hi and its like -/
theorem ep_chain {g g' : Int → Int → Bool} {i j k : Int} (ha : EvP ta σ H (Is (.int i))) (hb : EvP tb σ H (Is (.int j))) (hc : EvP tc σ H (Is (.int k))) :
    EvP (tChain (rI0 fun i j => .bl (g i j)) (rI0 fun i j => .bl (g' i j)) ta tb tc) σ H (Is (.bl (g i j && g' j k))) := fun H1 e Q q =>
  ha H1 e _ fun a H2 e2 ea => hb H2 (e.trans e2) _ fun b H3 e3 eb => ⟨i, j, ea, eb, g i j, rfl, by
    cases z : g i j with
    | true => exact ite_t rfl (hc H3 ((e.trans e2).trans e3) _ fun d H4 e4 ed => ⟨j, k, eb, ed, q _ H4 ((e2.trans e3).trans e4) (by rw [z]; rfl)⟩)
    | false => exact ite_f rfl (q _ H3 (e2.trans e3) (by rw [z]; rfl))⟩
theorem ep_if (h : EvTP t σ H b) (h1 : b = true → EvP ta σ H R) (h2 : b = false → EvP tb σ H R) : EvP (tIf t ta tb) σ H R := fun H1 e Q q => h H1 e _ fun H2 e2 => by
  cases b with
  | true => exact ite_t rfl (h1 rfl H2 (e.trans e2) Q fun v H3 e3 r => q v H3 (e2.trans e3) r)
  | false => exact ite_f rfl (h2 rfl H2 (e.trans e2) Q fun v H3 e3 r => q v H3 (e2.trans e3) r)
theorem sp_if (h : EvTP t σ H b) (h1 : b = true → ∀ H1, Ex H H1 → t1 D σ H1) (h2 : b = false → ∀ H1, Ex H H1 → t2 D σ H1) : tIfS t t1 t2 D σ H := h H (Ex.refl H) _ fun H1 e => by
  cases b with
  | true => exact ite_t rfl (h1 rfl H1 e)
  | false => exact ite_f rfl (h2 rfl H1 e)
theorem ep_tup2 (ha : EvP ta σ H (Is x)) (hb : EvP tb σ H (Is y)) : EvP (tTup (tCons ta (tCons tb tNil))) σ H (Tu K [x, y]) :=
  ep_tup (A := AC (Is x) (AC (Is y) A0)) (ea_c ha (mo_is _) (ea_c hb (mo_is _) ea_n))
    (fun vs H ⟨_, _, e, _, _, _, e2, _, e3⟩ => by
      obtain rfl := e
      obtain rfl := e2
      obtain rfl : _ = [] := e3
      exact Nat.le_trans (by decide : 2 ≤ 100000) (by decide))
    fun p vs H H' ⟨_, _, e, ex, _, _, e2, ey, e3⟩ _ h => by
      obtain rfl := e
      obtain rfl := e2
      obtain rfl : _ = [] := e3
      obtain rfl : _ = x := ex
      obtain rfl : _ = y := ey
      exact ⟨p, rfl, st_of h⟩
theorem ep_len {xs : List V} (ha : EvP ta σ H (fun v H => ∃ a, v = .ref a ∧ SqL K H a xs)) :
    EvP (tCB (fun xs H Q => ∃ p ys, xs = [.ref p] ∧ (SqL K H p ys ∨ SqT K H p ys) ∧ Q (.int ys.length) H) (tCons ta tNil)) σ H (Is (.int (xs.length : Int))) := fun H1 e Q q =>
  ha H1 e _ fun v H2 e2 ⟨a, ea, sq⟩ => ⟨a, xs, by rw [ea], .inl sq, q _ H2 e2 rfl⟩
theorem ep_lenF {xs : List Frac} (ha : EvP ta σ H (FrL K xs)) :
    EvP (tCB (fun xs H Q => ∃ p ys, xs = [.ref p] ∧ (SqL K H p ys ∨ SqT K H p ys) ∧ Q (.int ys.length) H) (tCons ta tNil)) σ H (Is (.int (xs.length : Int))) := fun H1 e Q q =>
  ha H1 e _ fun v H2 e2 ⟨a, vs, ea, sq, fs⟩ => ⟨a, vs, by rw [ea], .inl (sq_of sq), q _ H2 e2 (by rw [fs.len]; rfl)⟩
theorem ep_abs {i : Int} (ha : EvP ta σ H (Is (.int i))) : EvP (tCB (fun xs H Q => ∃ i, xs = [.int i] ∧ Q (.int (if i < 0 then -i else i)) H) (tCons ta tNil)) σ H (Is (.int (i.natAbs : Int))) := fun H1 e Q q =>
  ha H1 e _ fun v H2 e2 ea => ⟨i, by rw [show v = _ from ea], q _ H2 e2 (by show V.int _ = V.int _; congr 1; split <;> omega)⟩
end
/-- a promise of a def that gives a new list of fractions -/
def spN {α : Type} (K : PySem.W.Frag) (Pre : α → Prop) (A : α → PA') (g : α → List Frac) : Sp := fun vs H Q _ => ∃ a, Pre a ∧ A a vs H ∧ ∀ v H', Ex H H' → FrN K (g a) H v H' → Q v H'
section
variable {K : PySem.W.Frag} {σ : L2.St} {H H' : Hp} {v x y : V} {R R' : PV} {te ta tb tc : TE} {r : R2} {D : Ends} {tb' : TS}
theorem frn_back {xs : List Frac} {H0 H1 : Hp} (e : Ex H0 H1) (h : FrN K xs H1 v H) : FrN K xs H0 v H := by
  obtain ⟨a, vs, h, n, q, r⟩ := h
  exact ⟨a, vs, h, none_back e n, q, r⟩
theorem ep_callN {α : Type} {Pre : α → Prop} {A : α → PA'} {g : α → List Frac} {t : TA} (a : α) (hp : Pre a) (h : EvAP t σ H (A a)) : EvP (tCall (spN K Pre A g) [] E0 t) σ H (FrN K (g a) H) := fun H1 e Q q =>
  h H1 e _ fun vs H2 e2 av => ⟨a, hp, by rw [List.append_nil]; exact av, fun v H3 e3 rv => q v H3 (e2.trans e3) (frn_back (e.trans e2) rv)⟩
theorem ep_lst1 {x : Frac} (ha : EvP ta σ H (Fr K x)) : EvP (tLst (tCons ta tNil)) σ H (FrN K [x] H) := fun H1 e Q q =>
  ha H1 e _ fun v H2 e2 hv => ⟨Nat.le_trans (by decide : 1 ≤ 100000) (by decide), fun p hp => q _ _ (e2.trans (Ex.new hp)) ⟨p, [v], rfl, none_back (e.trans e2) hp, upd_same, Fs.one (mo_fr _ _ _ (Ex.new hp) hv)⟩⟩
theorem ep_lst0 : EvP (tLst tNil) σ H (FrN K [] H) := fun H1 e Q q =>
  ⟨Nat.zero_le _, fun p hp => q _ _ (Ex.new hp) ⟨p, [], rfl, none_back e hp, upd_same, trivial⟩⟩
theorem ep_cat {xs ys : List Frac} (ha : EvP ta σ H (FrL K xs)) (hb : EvP tb σ H (FrL K ys)) (hl : xs.length + ys.length ≤ 100000) : EvP (tOp rCat ta tb) σ H (FrN K (xs ++ ys) H) := fun H1 e Q q =>
  ha H1 e _ fun v H2 e2 ⟨a, vs, ea, sa, fa⟩ => hb H2 (e.trans e2) _ fun u H3 e3 ⟨b, us, eb, sb, fb⟩ =>
    ⟨a, b, vs, us, ea, eb, e3 _ _ sa, sb, sz_of (by rw [fa.len, fb.len]; exact hl), fun p hp => q _ _ ((e2.trans e3).trans (Ex.new hp))
      ⟨p, vs ++ us, rfl, none_back ((e.trans e2).trans e3) hp, upd_same, ((fa.mono e3).mono (Ex.new hp)).app (fb.mono (Ex.new hp))⟩⟩
theorem ep_frl {xs : List Frac} {H0 : Hp} (h : EvP ta σ H (FrN K xs H0)) : EvP ta σ H (FrL K xs) := h.imp fun _ _ => frn_l
theorem Ex.upd2 {H0 H1 : Hp} {p : Addr} {o : HO} (e : Ex H0 H1) (h : H0 p = none) : Ex H0 (upd H1 p o) := Ex.mut e h
/-- [e for i in range(n)], each a fraction -/
theorem ep_lcR {i n : Nat} {g : Nat → Frac} (ha : EvP ta σ H (Is (.int (n : Int)))) (hn : n ≤ 1000)
    (hw' : ∀ v : V, wipe ((wipe σ [i]).set i (some v)) [i] = wipe σ [i])
    (he : ∀ (k : Nat) H1, k < n → Ex H H1 → EvP te ((wipe σ [i]).set i (some (.int (k : Int)))) H1 (Fr K (g k))) :
    EvP (tLc (iRng1 (tCons ta tNil)) (gName i) tYes te [i]) σ H (FrN K ((List.range n).map g) H) := fun H1 e Q q => by
  refine ha H1 e _ fun v H2 e2 hv => ?_
  obtain rfl : v = _ := hv
  refine ⟨(n : Int), rfl, by omega, by omega, fun D hD => ?_⟩
  rw [Int.toNat_natCast]
  refine lc_range (lo := 0) (n := n) (fun k H' => ∃ us, Ex H2 H' ∧ H' D = some (.lst us) ∧ Fs K H' us ((List.range k).map g)) ⟨[], Ex.new hD, upd_same, trivial⟩ (fun k H' hk ⟨us, e3, hd, fs⟩ => ?_) fun H' ⟨us, e3, hd, fs⟩ => ?_
  · rw [Int.zero_add]
    refine ⟨hw' _, ?_⟩
    simp only [tYes, if_true]
    refine he k H' hk ((e.trans e2).trans e3) H' (Ex.refl _) _ fun y H4 e4 hy => ⟨us, e4 _ _ hd, sz_lt (by rw [fs.len, List.length_map, List.length_range]; omega), us ++ [y], ?_, upd_same, ?_⟩
    · exact Ex.mut (e3.trans e4) hD
    · rw [List.range_succ, List.map_append]
      exact (fs_upd (e4 _ _ hd) (fs.mono e4)).app (Fs.one (fr_upd (e4 _ _ hd) hy))
  · exact q _ _ (e2.trans e3) ⟨D, us, rfl, none_back (e.trans e2) hD, hd, fs⟩
/-- xs.append(e) -/
theorem sp_append {to : TE} {l : Addr} {us : List V} (ho : EvP to σ H (Is (.ref l))) (hl : H l = some (.lst us)) (ha : EvP ta σ H R) (hn : us.length < 100000)
    (k : ∀ y H1, Ex H H1 → R y H1 → D.nx σ (upd H1 l (.lst (us ++ [y])))) : tDrop (tBM K "list" rAppend to (tCons ta tNil)) D σ H := by
  refine ho.run fun x H1 e1 hx => ?_
  obtain rfl : x = _ := hx
  refine ⟨.inl ⟨rfl, us, sq_of (e1 _ _ hl)⟩, ?_⟩
  refine (ha.mono e1).run fun y H2 e2 hy => ?_
  exact ⟨l, us, y, rfl, rfl, e2 _ _ (e1 _ _ hl), sz_lt hn, k y H2 (e1.trans e2) hy⟩
theorem fit_small {i : Int} (h : i.natAbs < 2 ^ 64) : Fit i := Nat.lt_of_lt_of_le h (Nat.pow_le_pow_right (by decide) (by decide))
/-- for i in range(n) -/
theorem sp_for_range {i n : Nat} (ha : EvP ta σ H (Is (.int (n : Int)))) (hn : n < 2 ^ 62) (Pv : Nat → L2.St → Hp → Prop) (h0 : ∀ H1, Ex H H1 → Pv 0 σ H1)
    (hs : ∀ k σ H, k < n → Pv k σ H → tb' { D with nx := Pv (k + 1), ct := Pv (k + 1), bk := D.nx } (σ.set i (some (.int (k : Int)))) H) (hd : ∀ σ H, Pv n σ H → D.nx σ H) :
    tFor (iRng1 (tCons ta tNil)) (gName i) tb' D σ H := by
  refine ha.run fun v H1 e1 hv => ?_
  obtain rfl : v = _ := hv
  refine ⟨(n : Int), rfl, by omega, by omega, ?_⟩
  show ∃ W : Nat → Nat → L2.St → Hp → Prop, _
  rw [Int.toNat_natCast]
  refine for_range (lo := 0) (n := n) Pv (h0 H1 e1) (fun k σ H hk p => ?_) hd
  rw [Int.zero_add]
  exact hs k σ H hk p
/-- for x in xs, a list that stands -/
theorem sp_for_list {i : Nat} {a : Addr} {xs : List V} (ha : EvP ta σ H (Is (.ref a))) (Pv : Nat → L2.St → Hp → Prop) (h0 : ∀ H1, Ex H H1 → Pv 0 σ H1) (hl : ∀ k σ H, Pv k σ H → SqL K H a xs)
    (hs : ∀ k x σ H, xs[k]? = some x → Pv k σ H → tb' { D with nx := Pv (k + 1), ct := Pv (k + 1), bk := D.nx } (σ.set i (some x)) H) (hd : ∀ σ H, Pv xs.length σ H → D.nx σ H) :
    tFor (iList K ta) (gName i) tb' D σ H := by
  refine ha.run fun v H1 e1 hv => ?_
  obtain rfl : v = _ := hv
  exact ⟨a, rfl, ⟨xs, hl 0 σ H1 (h0 H1 e1)⟩, for_list (K := K) (a := a) (xs := xs) Pv (h0 H1 e1) (fun k σ H _ p => hl k σ H p) hs hd⟩
end
/-- a def of the top, as it stands in the written part -/
structure Df (K : PySem.W.Frag) (mg : Str → Option Value) (x : Str) (st : Stmt) (ps : List Str) : Type where
  f : Addr
  fd : FuncData
  F : Fun K x x st f fd
  g : mg x = some (.ref f)
  b : Binds K fd ps []
  bb : ∀ us : List Value, us.length = ps.length → bindArgs fd ⟨us, []⟩ = pure (ps.zip us)
theorem bindsTo_of {K : PySem.W.Frag} {mg : Str → Option Value} {x : Str} {st : Stmt} {ps : List Str} (D : Df K mg x st ps) {s : Shared} (us : List Value) (h : us.length = ps.length) : BindsTo s D.fd ⟨us, []⟩ (ps.zip us) := .of_eq (D.bb us h)
theorem pe_df {X : Cx} {x : Str} {st : Stmt} {ps : List Str} {k j : Nat} {sp : Sp} {e : Expr} {es : List Expr} {t : TA} {p pos : Pos} (D : Df X.K X.mg x st ps)
    (G : FnOk X.prog X.w X.K X.mg X.base CX0 k D.f D.fd ps sp) (hr : Room j X.A) (ha : PA X (e :: es) t) (hj : k ≤ j := by decide) (hg : Gl X x := by rfl)
    (hdb : (x == ("__debug__" : Str)) = false := by decide) (he : starEach (e :: es) X.env = (false, eval e X.env) :: starEach es X.env := by rfl)
    (hpl : (backTo pos (starEach es X.env)).any (·.1) = false := by rfl) : PE X (.Call (.Name x p) (e :: es) [] pos) (tCall sp [] E0 t) :=
  pe_call G (hr.mono hj) hg D.g D.F.kp D.b .nil pass0 ha hdb he hpl
/-- a def's promise of that form, from its body -/
theorem ok_spF {P : Program} {w : World} {K : PySem.W.Frag} {mg : Str → Option Value} {base : Heap} {x : Str} {st : Stmt} {ps N : List Str} {k : Nat} {α : Type} {Pre : α → Prop} {A : α → PA'} {R : α → PV}
    (D : Df K mg x st ps) (S : FnScope N ps (defScope st)) (len : ∀ a vs H, A a vs H → vs.length = ps.length)
    (body : ∀ (cdv : Value) (Ar : Around) (outer : List Env) (s : Shared) (H : Hp) (Q : VK) (E : XK) (a : α) (vs : List V), Room k (Ar.deeper (envOfC x (defScope st) s.heap.objs.size D.f cdv)) → Pre a → A a vs H →
      (∀ v H', Ex H H' → R a v H' → Q v H') → ∃ t, PSs (cxOf CX0 P w K mg base N x (defScope st) D.f cdv Ar outer s H E).nox (defBody st) t ∧ t { nx := fun _ H' => Q .non H', rt := Q } (start N vs) H) :
    FnOk P w K mg base CX0 (k + 1) D.f D.fd ps (spF Pre A R) := by
  refine D.F.ok S (fun vs H Q E h => ?_) (fun cdv Ar outer s H vs Q E hr h => ?_)
  · obtain ⟨a, _, h, _⟩ := h
    exact len a vs H h
  · obtain ⟨a, h1, h2, h3⟩ := h
    exact body cdv Ar outer s H Q E a vs hr h1 h2 h3
theorem ok_spN {P : Program} {w : World} {K : PySem.W.Frag} {mg : Str → Option Value} {base : Heap} {x : Str} {st : Stmt} {ps N : List Str} {k : Nat} {α : Type} {Pre : α → Prop} {A : α → PA'} {g : α → List Frac}
    (D : Df K mg x st ps) (S : FnScope N ps (defScope st)) (len : ∀ a vs H, A a vs H → vs.length = ps.length)
    (body : ∀ (cdv : Value) (Ar : Around) (outer : List Env) (s : Shared) (H : Hp) (Q : VK) (E : XK) (a : α) (vs : List V), Room k (Ar.deeper (envOfC x (defScope st) s.heap.objs.size D.f cdv)) → Pre a → A a vs H →
      (∀ v H', Ex H H' → FrN K (g a) H v H' → Q v H') → ∃ t, PSs (cxOf CX0 P w K mg base N x (defScope st) D.f cdv Ar outer s H E).nox (defBody st) t ∧ t { nx := fun _ H' => Q .non H', rt := Q } (start N vs) H) :
    FnOk P w K mg base CX0 (k + 1) D.f D.fd ps (spN K Pre A g) := by
  refine D.F.ok S (fun vs H Q E h => ?_) (fun cdv Ar outer s H vs Q E hr h => ?_)
  · obtain ⟨a, _, h, _⟩ := h
    exact len a vs H h
  · obtain ⟨a, h1, h2, h3⟩ := h
    exact body cdv Ar outer s H Q E a vs hr h1 h2 h3
end Sm

/-! # More rules of my own: extend by a tuple, a written dict with int keys, a call of what an expression gives -/
namespace Sm
open PySem PySem.Spec PyProof.Rows L2 Evl
/-! ### list.extend(tuple) -/
theorem meets_extT (l b : Addr) (its : Array Value) (n : Nat) (o : Obj) (its2 : Array Value) (n2 : Nat) (hc : o.cls = .type "tuple") (hd : o.data = .seq its2 n2)
    (hlong : ¬ (!its.isEmpty && Builtin.List.listTooLong (its.size + its2.size)) = true) (h1 : its.size ≤ sizeLine) (h2 : its.size + its2.size ≤ sizeLine) :
    Meets (Builtin.«list.extend» ⟨[.ref l, .ref b], []⟩) (fun _ R s => s.heap.get? l = some { cls := .type "list", data := .seq its n } ∧ s.heap.get? b = some o ∧
      R (.ok (.ret .none)) { s with heap := s.heap.update l (Obj.mapSeq (· ++ its2)) }) :=
  .of_wp fun prog w A R s ⟨hl, hb, h⟩ => by
    show wpAny _ A.in1 (Builtin.List.listExtendWith (.ref l) (.ref b) .none) _ _ s
    unfold Builtin.List.listExtendWith
    refine wpAny_bind (wpAny_typeOf ⟨o, hb, hc⟩ ?_)
    have e1 : (Builtin.List.listSameRef (.ref l) (.ref b) || Value.type "tuple" == Value.type "list" || Value.type "tuple" == Value.type "tuple") = true := by simp
    simp only [e1, if_true]
    refine wpAny_bind ?_
    unfold Builtin.List.listItems
    refine wpAny_bind (wpAny_seqItems hb hd (wpAny_pure ?_))
    refine wpAny_bind ?_
    refine wpAny_bind (wpAny_seqItems hl rfl (wpAny_pure ?_))
    rw [if_neg hlong]
    refine wpAny_bind ?_
    refine wpAny_updateSeq hl rfl ?_ (_hz' := by rw [Array.size_append]; omega) (hz := h1)
    exact wpAny_pure ⟨_, rfl, h⟩
def rExtT (K : PySem.W.Frag) : V → List V → Hp → VK → Prop := fun x vs H Q => ∃ l b xs zs, x = .ref l ∧ vs = [.ref b] ∧ H l = some (.lst xs) ∧ SqT K H b zs ∧ xs.length + zs.length ≤ sizeLine ∧ Q .non (upd H l (.lst (xs ++ zs)))
theorem mt_extT {X : Cx} : MtM X "list.extend" (rExtT X.K) := by
  intro pins s σ H x vs v us Q I rx rv h
  obtain ⟨l, b, xs, zs, rfl, rfl, hH, hB, hz, q⟩ := h
  cases rx
  obtain ⟨u, rfl, ru⟩ := rv.one
  cases ru
  obtain ⟨z, its, n, r, hl, e⟩ := I.lstM hH
  obtain ⟨its2, r2, ⟨o, e2, hc, n2, hd⟩, z2⟩ := I.tuple hB
  have l2 := r2.length
  have sz : its.toArray.size + its2.toArray.size ≤ sizeLine := by
    rw [List.size_toArray, List.size_toArray]
    omega
  have door : ¬ (!its.toArray.isEmpty && Builtin.List.listTooLong (its.toArray.size + its2.toArray.size)) = true := by
    rw [notLongL sz]
    simp
  refine call_meets F.slot_list_extend ⟨_, e, rfl⟩ F.entry_list_extend (F.args_list_extend_2 _ _) (meets_extT l b its.toArray n o its2.toArray n2 hc hd door (by omega) sz) ⟨e, e2, ?_⟩
  refine ⟨.non, _, I.lset (its' := its ++ its2) hH e (by simp) (r.append r2) ?_, rfl, q⟩
  rw [List.length_append]
  omega
/-! ### a written dict with int keys -/
structure KInt (K : PySem.W.Frag) (d : Addr) (es : Array DictEntry) (n : Nat) : Prop where
  at_ : K.lookup d = some ⟨.type "dict", none, .dict es n, #[]⟩
  keys : ∀ e ∈ es, ∃ k t, e.key = .int k t ∧ e.hash = hashInt k
  low : (d == sysModules) = false
theorem KInt.map {K : PySem.W.Frag} {d : Addr} {es : Array DictEntry} {n : Nat} (D : KInt K d es n) {prog : Program} {w : World} {h : Heap} (X : K.In h) : h.MapOf (intKind prog w) d (fun k => findBy Value.isInt es k) :=
  ⟨_, es, n, X _ _ D.at_, ⟨rfl, rfl, rfl⟩, rfl, fun e he => by
    obtain ⟨k, t, e1, e2⟩ := D.keys e he
    exact ⟨k, by rw [e1]; exact intKind_is prog w k t, e2⟩, fun _ => rfl⟩
section
variable {X : Cx} {d : Addr} {es : Array DictEntry} {n : Nat}
theorem op_notIn_ki (D : KInt X.K d es n) : OpR X (compareOp .NotIn) (fun x y H Q => ∃ k : Int, x = .int k ∧ y = .ref d ∧ Q (.bl (!(findBy Value.isInt es k).isSome)) H) := by
  intro pins s σ H x y v u Q I rx ry h
  obtain ⟨k, rfl, rfl, q⟩ := h
  obtain ⟨t, rfl⟩ := rx
  cases ry
  exact wpAny_notIn_of (intKind_is X.prog X.w k t) D.low (D.map I.kIn) ⟨.bl _, H, I.tok _, rfl, q⟩
theorem op_in_ki (D : KInt X.K d es n) : OpR X (compareOp .In) (fun x y H Q => ∃ k : Int, x = .int k ∧ y = .ref d ∧ Q (.bl (findBy Value.isInt es k).isSome) H) := by
  intro pins s σ H x y v u Q I rx ry h
  obtain ⟨k, rfl, rfl, q⟩ := h
  obtain ⟨t, rfl⟩ := rx
  cases ry
  exact wpAny_in_of (intKind_is X.prog X.w k t) D.low (D.map I.kIn) ⟨.bl _, H, I.tok _, rfl, q⟩
def rIxK (d : Addr) (es : Array DictEntry) : R2 := fun x y H Q => ∃ (k : Int) (u : Value) (v : V), x = .ref d ∧ y = .int k ∧ findBy Value.isInt es k = some u ∧ RelV v u ∧ Q v H
theorem ix_ki (D : KInt X.K d es n) : IxR X (rIxK d es) := by
  intro value slice pins s σ H x y v u Q I rx ry h hs
  obtain ⟨k, u0, r, rfl, rfl, e, ru, q⟩ := h
  obtain rfl : v = Value.ref d := rx
  obtain ⟨t, rfl⟩ := ry
  have hm := D.map (prog := X.prog) (w := X.w) I.kIn
  exact tail_any hm.typeIs slot_dict_getitem.lookup (wpAny_getItem_of (intKind_is X.prog X.w k t) hm e ⟨r, H, I.tok _, ru, q⟩) hs
end
/-! ### a call of what an expression gives -/
def tCallE (S : Addr → Sp → Prop) (tf : TE) (t : TA) : TE := fun σ H Q => tf σ H fun v H1 => ∃ f sp, v = .ref f ∧ S f sp ∧ t σ H1 fun vs H2 => sp vs H2 Q E0
/-- a def that is found at f keeps sp, by at most level k -/
def Keeps (P : Program) (w : World) (K : PySem.W.Frag) (mg : Str → Option Value) (base : Heap) (k : Nat) (f : Addr) (sp : Sp) : Prop :=
  ∃ (fd : FuncData) (ps : List Str) (j : Nat), j ≤ k ∧ FnOk P w K mg base CX0 j f fd ps sp ∧ PySem.W.keepIn K (.ref f) = true ∧ Binds K fd ps []
theorem pe_callE {X : Cx} {k : Nat} {S : Addr → Sp → Prop} {fe e : Expr} {es : List Expr} {tf : TE} {t : TA} {pos : Pos}
    (A : ∀ f sp, S f sp → Keeps X.prog X.w X.K X.mg X.base k f sp)
    (hr : Room k X.A) (hf : PE X fe tf) (ha : PA X (e :: es) t)
    (hev : eval (.Call fe (e :: es) [] pos) X.env = (do callWith pos (← eval fe X.env) [] (backTo pos (starEach (e :: es) X.env)) (backToKw pos (keywordEach [] X.env))) := by rfl)
    (he : starEach (e :: es) X.env = (false, eval e X.env) :: starEach es X.env := by rfl) (hpl : (backTo pos (starEach es X.env)).any (·.1) = false := by rfl) :
    PE X (.Call fe (e :: es) [] pos) (tCallE S tf t) := by
  refine ⟨fun pins s σ H Q I h => ?_⟩
  rw [hev]
  refine wpAny_bind (thn (hf.run pins s σ H _ I h) fun u s1 ⟨v, H1, I1, r1, f, sp, ev, hS, q1⟩ => ?_)
  subst ev
  cases r1
  obtain ⟨fd, ps, j, hj, F, hk, hb⟩ := A f sp hS
  refine PySem.W.callWith_K (h₀ := X.base) I.ok.mod.kin hk (thn (ha.run pos pins s1 σ _ _ I1 q1) fun us s2 ⟨vs, H2, I2, r, q⟩ => ⟨I2.kIn, ?_⟩) he hpl
  have q' : sp (vs ++ []) H2 Q E0 := by rw [List.append_nil]; exact q
  exact run_fn F (hr.mono hj) hb .nil pass0 I2 r q'
theorem Keeps.of {P : Program} {w : World} {K : PySem.W.Frag} {mg : Str → Option Value} {base : Heap} {k j : Nat} {x : Str} {st : Stmt} {ps : List Str} {sp : Sp} (D : Df K mg x st ps) (G : FnOk P w K mg base CX0 j D.f D.fd ps sp) (hj : j ≤ k) : Keeps P w K mg base k D.f sp :=
  ⟨D.fd, ps, j, hj, G, D.F.kp, D.b⟩
section
variable {K : PySem.W.Frag} {σ : L2.St} {H : Hp} {ta tb : TE} {d : Addr} {es : Array DictEntry}
theorem ep_notIn {k : Int} (ha : EvP ta σ H (Is (.int k))) (hb : EvP tb σ H (Is (.ref d))) :
    EvP (tOp (fun x y H Q => ∃ k : Int, x = .int k ∧ y = .ref d ∧ Q (.bl (!(findBy Value.isInt es k).isSome)) H) ta tb) σ H (Is (.bl (!(findBy Value.isInt es k).isSome))) := fun H1 e Q q =>
  ha H1 e _ fun a H2 e2 ea => hb H2 (e.trans e2) _ fun b H3 e3 eb => ⟨k, ea, eb, q _ H3 (e2.trans e3) rfl⟩
theorem ep_ixK {k : Int} {f : Addr} (ha : EvP ta σ H (Is (.ref d))) (hb : EvP tb σ H (Is (.int k))) (h : findBy Value.isInt es k = some (.ref f)) : EvP (tOp (rIxK d es) ta tb) σ H (Is (.ref f)) := fun H1 e Q q =>
  ha H1 e _ fun a H2 e2 ea => hb H2 (e.trans e2) _ fun b H3 e3 eb => ⟨k, _, .ref f, ea, eb, h, rfl, q _ H3 (e2.trans e3) rfl⟩
end
section
variable {K : PySem.W.Frag} {σ : L2.St} {H : Hp} {ta tb : TE} {D : Ends} {tb' : TS} {R : PV}
/-- for x in reversed(xs), a list that stands -/
theorem sp_for_rev {i : Nat} {a : Addr} {xs : List V} (ha : EvP ta σ H (Is (.ref a))) (Pv : Nat → L2.St → Hp → Prop) (h0 : ∀ H1, Ex H H1 → Pv 0 σ H1) (hl : ∀ k σ H, Pv k σ H → SqL K H a xs)
    (hs : ∀ k x σ H, k < xs.length → xs[xs.length - 1 - k]? = some x → Pv k σ H → tb' { D with nx := Pv (k + 1), ct := Pv (k + 1), bk := D.nx } (σ.set i (some x)) H) (hd : ∀ σ H, Pv xs.length σ H → D.nx σ H) :
    tFor (iRev K (tCons ta tNil)) (gName i) tb' D σ H := by
  refine ha.run fun v H1 e1 hv => ?_
  obtain rfl : v = _ := hv
  refine ⟨a, xs, rfl, hl 0 σ H1 (h0 H1 e1), ?_⟩
  refine ⟨fun i m σ H => m = xs.length - i ∧ i ≤ xs.length ∧ Pv i σ H, ⟨xs.length, by simp, Nat.zero_le _, h0 H1 e1⟩, ?_⟩
  rintro j m σ H ⟨rfl, hj, p⟩
  have q := hl j σ H p
  by_cases hlt : j < xs.length
  · refine .inr ⟨⟨hlt, xs, xs[xs.length - 1 - j], q, List.getElem?_eq_getElem (by omega)⟩, Pv (j + 1), fun σ' H' p' => ⟨xs.length - (j + 1), by omega, rfl, hlt, p'⟩, fun x H' y => ?_⟩
    obtain ⟨e, y⟩ := y
    subst e
    exact hs j x σ _ hlt (y xs q) p
  · have e : j = xs.length := by omega
    subst e
    exact .inl ⟨Nat.le_refl _, hd σ H p⟩
/-- x += e -/
theorem sp_augI {i : Nat} {n m : Int} (hx : σ[i]? = some (some (.int n))) (he : EvP ta σ H (Is (.int m))) (k : ∀ H1, Ex H H1 → D.nx (σ.set i (some (.int (n + m)))) H1) : tAug i ta (ipI fun i j => i + j) D σ H := by
  refine ⟨_, hx, he.run fun v H1 e1 hv => ?_⟩
  obtain rfl : v = _ := hv
  exact ⟨n, m, rfl, rfl, k H1 e1⟩
/-- e is None -/
theorem ep_isN {v : V} (ha : EvP ta σ H (Is v)) : EvP (tOp (fun x y H Q => y = .non ∧ Q (.bl (decide (x = .non))) H) ta (tC .non)) σ H (Is (.bl (decide (v = .non)))) := fun H1 e Q q =>
  ha H1 e _ fun a H2 e2 ea => by
    obtain rfl : a = _ := ea
    exact ⟨rfl, q _ H2 e2 rfl⟩
theorem ep_notN {v : V} (ha : EvP ta σ H (Is v)) : EvP (tOp (fun x y H Q => y = .non ∧ Q (.bl (!decide (x = .non))) H) ta (tC .non)) σ H (Is (.bl (!decide (v = .non)))) := fun H1 e Q q =>
  ha H1 e _ fun a H2 e2 ea => by
    obtain rfl : a = _ := ea
    exact ⟨rfl, q _ H2 e2 rfl⟩
/-- for x in t, a tuple that stands -/
theorem sp_for_tup {i : Nat} {a : Addr} {xs : List V} (ha : EvP ta σ H (fun v H => v = .ref a ∧ SqT K H a xs)) (Pv : Nat → L2.St → Hp → Prop) (h0 : ∀ H1, Ex H H1 → SqT K H1 a xs → Pv 0 σ H1) (hl : ∀ k σ H, Pv k σ H → SqT K H a xs)
    (hs : ∀ k x σ H, xs[k]? = some x → Pv k σ H → tb' { D with nx := Pv (k + 1), ct := Pv (k + 1), bk := D.nx } (σ.set i (some x)) H) (hd : ∀ σ H, Pv xs.length σ H → D.nx σ H) :
    tFor (iTup K ta) (gName i) tb' D σ H := by
  refine ha.run fun v H1 e1 hv => ?_
  obtain ⟨rfl, hq⟩ := hv
  exact ⟨a, rfl, ⟨xs, hq⟩, for_tup (K := K) (a := a) (xs := xs) Pv (h0 H1 e1 hq) (fun k σ H _ p => hl k σ H p) hs hd⟩
end
end Sm

/-! # The program's text -/
namespace Sm
open PySem PySem.Spec PyProof.Rows L2 Evl
def topS (i : Nat) : Stmt := PySem.Challenge.pw_spreadmeans_s01_answers.main.body.getD i (.Pass ⟨0, 0, 0, 0⟩)
abbrev s_shared_part : Stmt := topS 4
theorem sc_shared_part : FnScope ["a", "b", "kept", "rest", "smaller"] ["a", "b"] (defScope s_shared_part) := ⟨rfl, rfl, rfl, by decide +kernel, rfl, by decide +kernel, by decide +kernel⟩
abbrev s_fraction : Stmt := topS 5
theorem sc_fraction : FnScope ["upper", "lower", "divisor"] ["upper", "lower"] (defScope s_fraction) := ⟨rfl, rfl, rfl, by decide +kernel, rfl, by decide +kernel, by decide +kernel⟩
abbrev s_plus : Stmt := topS 6
theorem sc_plus : FnScope ["x", "y"] ["x", "y"] (defScope s_plus) := ⟨rfl, rfl, rfl, by decide +kernel, rfl, by decide +kernel, by decide +kernel⟩
abbrev s_less : Stmt := topS 7
theorem sc_less : FnScope ["x", "y"] ["x", "y"] (defScope s_less) := ⟨rfl, rfl, rfl, by decide +kernel, rfl, by decide +kernel, by decide +kernel⟩
abbrev s_times : Stmt := topS 8
theorem sc_times : FnScope ["x", "y"] ["x", "y"] (defScope s_times) := ⟨rfl, rfl, rfl, by decide +kernel, rfl, by decide +kernel, by decide +kernel⟩
abbrev s_is_less : Stmt := topS 9
theorem sc_is_less : FnScope ["x", "y"] ["x", "y"] (defScope s_is_less) := ⟨rfl, rfl, rfl, by decide +kernel, rfl, by decide +kernel, by decide +kernel⟩
abbrev s_divided : Stmt := topS 10
theorem sc_divided : FnScope ["x", "y"] ["x", "y"] (defScope s_divided) := ⟨rfl, rfl, rfl, by decide +kernel, rfl, by decide +kernel, by decide +kernel⟩
abbrev s_too_long : Stmt := topS 11
theorem sc_too_long : FnScope ["x", "bound"] ["x"] (defScope s_too_long) := ⟨rfl, rfl, rfl, by decide +kernel, rfl, by decide +kernel, by decide +kernel⟩
abbrev s_power_alone : Stmt := topS 13
theorem sc_power_alone : FnScope ["power", "below"] ["power"] (defScope s_power_alone) := ⟨rfl, rfl, rfl, by decide +kernel, rfl, by decide +kernel, by decide +kernel⟩
abbrev s_mean_with_power : Stmt := topS 14
theorem sc_mean_with_power : FnScope ["factors", "power", "means", "total", "i"] ["factors", "power", "means"] (defScope s_mean_with_power) := ⟨rfl, rfl, rfl, by decide +kernel, rfl, by decide +kernel, by decide +kernel⟩
abbrev s_mean_of : Stmt := topS 15
theorem sc_mean_of : FnScope ["factors", "means"] ["factors", "means"] (defScope s_mean_of) := ⟨rfl, rfl, rfl, by decide +kernel, rfl, by decide +kernel, by decide +kernel⟩
abbrev s_mean_of_product : Stmt := topS 16
theorem sc_mean_of_product : FnScope ["factors", "other", "means", "total", "i"] ["factors", "other", "means"] (defScope s_mean_of_product) := ⟨rfl, rfl, rfl, by decide +kernel, rfl, by decide +kernel, by decide +kernel⟩
abbrev s_mean_of_square : Stmt := topS 17
theorem sc_mean_of_square : FnScope ["factors", "means"] ["factors", "means"] (defScope s_mean_of_square) := ⟨rfl, rfl, rfl, by decide +kernel, rfl, by decide +kernel, by decide +kernel⟩
abbrev s_value_at : Stmt := topS 18
theorem sc_value_at : FnScope ["factors", "place", "value", "factor"] ["factors", "place"] (defScope s_value_at) := ⟨rfl, rfl, rfl, by decide +kernel, rfl, by decide +kernel, by decide +kernel⟩
abbrev s_times_power_plus : Stmt := topS 19
theorem sc_times_power_plus : FnScope ["factors", "shift", "product", "i"] ["factors", "shift"] (defScope s_times_power_plus) := ⟨rfl, rfl, rfl, by decide +kernel, rfl, by decide +kernel, by decide +kernel⟩
abbrev s_less_often : Stmt := topS 20
theorem sc_less_often : FnScope ["factors", "other", "often", "rest", "i"] ["factors", "other", "often"] (defScope s_less_often) := ⟨rfl, rfl, rfl, by decide +kernel, rfl, by decide +kernel, by decide +kernel⟩
abbrev s_less_found : Stmt := topS 23
theorem sc_less_found : FnScope ["power", "found", "means", "rest", "pair", "often"] ["power", "found", "means"] (defScope s_less_found) := ⟨rfl, rfl, rfl, by decide +kernel, rfl, by decide +kernel, by decide +kernel⟩
abbrev s_first_power_met : Stmt := topS 24
theorem sc_first_power_met : FnScope ["factors", "k", "means", "power"] ["factors", "k", "means"] (defScope s_first_power_met) := ⟨rfl, rfl, rfl, by decide +kernel, rfl, by decide +kernel, by decide +kernel⟩
abbrev s_proof_with_power : Stmt := topS 25
theorem sc_proof_with_power : FnScope ["power", "rest", "means", "often", "proof"] ["power", "rest", "means"] (defScope s_proof_with_power) := ⟨rfl, rfl, rfl, by decide +kernel, rfl, by decide +kernel, by decide +kernel⟩
abbrev s_proof_from : Stmt := topS 26
theorem sc_proof_from : FnScope ["rest", "size", "k", "means", "power"] ["rest", "size", "k", "means"] (defScope s_proof_from) := ⟨rfl, rfl, rfl, by decide +kernel, rfl, by decide +kernel, by decide +kernel⟩
abbrev s_at_right_angles : Stmt := topS 27
theorem sc_at_right_angles : FnScope ["k", "means", "angles", "power", "rest", "size"] ["k", "means"] (defScope s_at_right_angles) := ⟨rfl, rfl, rfl, by decide +kernel, rfl, by decide +kernel, by decide +kernel⟩
abbrev s_fits_at_all : Stmt := topS 28
theorem sc_fits_at_all : FnScope ["angles"] ["angles"] (defScope s_fits_at_all) := ⟨rfl, rfl, rfl, by decide +kernel, rfl, by decide +kernel, by decide +kernel⟩
abbrev s_fits_strictly : Stmt := topS 29
theorem sc_fits_strictly : FnScope ["angles", "k"] ["angles", "k"] (defScope s_fits_strictly) := ⟨rfl, rfl, rfl, by decide +kernel, rfl, by decide +kernel, by decide +kernel⟩
abbrev s_all_found_up_to : Stmt := topS 30
theorem sc_all_found_up_to : FnScope ["angles", "power"] ["angles", "power"] (defScope s_all_found_up_to) := ⟨rfl, rfl, rfl, by decide +kernel, rfl, by decide +kernel, by decide +kernel⟩
abbrev s_turn : Stmt := topS 31
theorem sc_turn : FnScope ["found", "power", "means", "factors", "size", "itself", "before"] ["found", "power", "means"] (defScope s_turn) := ⟨rfl, rfl, rfl, by decide +kernel, rfl, by decide +kernel, by decide +kernel⟩
abbrev s_most_at : Stmt := topS 33
theorem sc_most_at : FnScope ["found", "place", "total", "pair", "value"] ["found", "place"] (defScope s_most_at) := ⟨rfl, rfl, rfl, by decide +kernel, rfl, by decide +kernel, by decide +kernel⟩
abbrev s_zeros_above : Stmt := topS 34
theorem sc_zeros_above : FnScope ["found", "power", "place", "changes", "sign", "pair"] ["found", "power", "place"] (defScope s_zeros_above) := ⟨rfl, rfl, rfl, by decide +kernel, rfl, by decide +kernel, by decide +kernel⟩
abbrev s_first_means : Stmt := topS 37
theorem sc_first_means : FnScope ["k", "power"] ["k"] (defScope s_first_means) := ⟨rfl, rfl, rfl, by decide +kernel, rfl, by decide +kernel, by decide +kernel⟩
abbrev s_with_point : Stmt := topS 38
theorem sc_with_point : FnScope ["means", "place", "weight", "changed", "share", "old"] ["means", "place", "weight"] (defScope s_with_point) := ⟨rfl, rfl, rfl, by decide +kernel, rfl, by decide +kernel, by decide +kernel⟩
abbrev s_moved : Stmt := topS 39
theorem sc_moved : FnScope ["means", "step", "changed", "raised", "power"] ["means", "step"] (defScope s_moved) := ⟨rfl, rfl, rfl, by decide +kernel, rfl, by decide +kernel, by decide +kernel⟩
abbrev s_is_small_fraction : Stmt := topS 47
theorem sc_is_small_fraction : FnScope ["upper", "lower"] ["upper", "lower"] (defScope s_is_small_fraction) := ⟨rfl, rfl, rfl, by decide +kernel, rfl, by decide +kernel, by decide +kernel⟩
abbrev s_is_small_polynomial : Stmt := topS 48
theorem sc_is_small_polynomial : FnScope ["row", "longest", "factor"] ["row", "longest"] (defScope s_is_small_polynomial) := ⟨rfl, rfl, rfl, by decide +kernel, rfl, by decide +kernel, by decide +kernel⟩
abbrev s_whole_factors : Stmt := topS 49
theorem sc_whole_factors : FnScope ["row", "factor"] ["row"] (defScope s_whole_factors) := ⟨rfl, rfl, rfl, by decide +kernel, rfl, by decide +kernel, by decide +kernel⟩
abbrev s_with_fractions : Stmt := topS 50
theorem sc_with_fractions : FnScope ["first", "fractions", "told", "one"] ["first", "fractions"] (defScope s_with_fractions) := ⟨rfl, rfl, rfl, by decide +kernel, rfl, by decide +kernel, by decide +kernel⟩
abbrev s_keep_unless_long : Stmt := topS 51
theorem sc_keep_unless_long : FnScope ["spread", "changed", "one"] ["spread", "changed"] (defScope s_keep_unless_long) := ⟨rfl, rfl, rfl, by decide +kernel, rfl, by decide +kernel, by decide +kernel⟩
abbrev s_angles_of : Stmt := topS 52
theorem sc_angles_of : FnScope ["spread"] ["spread"] (defScope s_angles_of) := ⟨rfl, rfl, rfl, by decide +kernel, rfl, by decide +kernel, by decide +kernel⟩
abbrev s_begin : Stmt := topS 53
theorem sc_begin : FnScope ["spread", "numbers", "row", "k"] ["spread", "numbers", "row"] (defScope s_begin) := ⟨rfl, rfl, rfl, by decide +kernel, rfl, by decide +kernel, by decide +kernel⟩
abbrev s_set_mean : Stmt := topS 54
theorem sc_set_mean : FnScope ["spread", "numbers", "row", "i", "upper", "lower", "old"] ["spread", "numbers", "row"] (defScope s_set_mean) := ⟨rfl, rfl, rfl, by decide +kernel, rfl, by decide +kernel, by decide +kernel⟩
abbrev s_set_row : Stmt := topS 55
theorem sc_set_row : FnScope ["spread", "numbers", "row", "lower", "upper"] ["spread", "numbers", "row"] (defScope s_set_row) := ⟨rfl, rfl, rfl, by decide +kernel, rfl, by decide +kernel, by decide +kernel⟩
abbrev s_put : Stmt := topS 56
theorem sc_put : FnScope ["spread", "numbers", "row", "place", "weight"] ["spread", "numbers", "row"] (defScope s_put) := ⟨rfl, rfl, rfl, by decide +kernel, rfl, by decide +kernel, by decide +kernel⟩
abbrev s_move : Stmt := topS 57
theorem sc_move : FnScope ["spread", "numbers", "row"] ["spread", "numbers", "row"] (defScope s_move) := ⟨rfl, rfl, rfl, by decide +kernel, rfl, by decide +kernel, by decide +kernel⟩
abbrev s_tell_means : Stmt := topS 58
theorem sc_tell_means : FnScope ["spread", "numbers", "row"] ["spread", "numbers", "row"] (defScope s_tell_means) := ⟨rfl, rfl, rfl, by decide +kernel, rfl, by decide +kernel, by decide +kernel⟩
abbrev s_tell_mean : Stmt := topS 59
theorem sc_tell_mean : FnScope ["spread", "numbers", "row"] ["spread", "numbers", "row"] (defScope s_tell_mean) := ⟨rfl, rfl, rfl, by decide +kernel, rfl, by decide +kernel, by decide +kernel⟩
abbrev s_tell_fits : Stmt := topS 60
theorem sc_tell_fits : FnScope ["spread", "numbers", "row"] ["spread", "numbers", "row"] (defScope s_tell_fits) := ⟨rfl, rfl, rfl, by decide +kernel, rfl, by decide +kernel, by decide +kernel⟩
abbrev s_tell_strict : Stmt := topS 61
theorem sc_tell_strict : FnScope ["spread", "numbers", "row"] ["spread", "numbers", "row"] (defScope s_tell_strict) := ⟨rfl, rfl, rfl, by decide +kernel, rfl, by decide +kernel, by decide +kernel⟩
abbrev s_tell_proof : Stmt := topS 62
theorem sc_tell_proof : FnScope ["spread", "numbers", "row", "angles", "factors"] ["spread", "numbers", "row"] (defScope s_tell_proof) := ⟨rfl, rfl, rfl, by decide +kernel, rfl, by decide +kernel, by decide +kernel⟩
abbrev s_tell_angle : Stmt := topS 63
theorem sc_tell_angle : FnScope ["spread", "numbers", "row", "j", "angles", "factors"] ["spread", "numbers", "row"] (defScope s_tell_angle) := ⟨rfl, rfl, rfl, by decide +kernel, rfl, by decide +kernel, by decide +kernel⟩
abbrev s_tell_turns : Stmt := topS 64
theorem sc_tell_turns : FnScope ["spread", "numbers", "row", "angles", "told", "j", "one"] ["spread", "numbers", "row"] (defScope s_tell_turns) := ⟨rfl, rfl, rfl, by decide +kernel, rfl, by decide +kernel, by decide +kernel⟩
abbrev s_tell_rank : Stmt := topS 65
theorem sc_tell_rank : FnScope ["spread", "numbers", "row", "angles"] ["spread", "numbers", "row"] (defScope s_tell_rank) := ⟨rfl, rfl, rfl, by decide +kernel, rfl, by decide +kernel, by decide +kernel⟩
abbrev s_tell_most : Stmt := topS 66
theorem sc_tell_most : FnScope ["spread", "numbers", "row", "angles"] ["spread", "numbers", "row"] (defScope s_tell_most) := ⟨rfl, rfl, rfl, by decide +kernel, rfl, by decide +kernel, by decide +kernel⟩
abbrev s_take : Stmt := topS 67
theorem sc_take : FnScope ["spread", "numbers", "row", "angles", "place", "most"] ["spread", "numbers", "row"] (defScope s_take) := ⟨rfl, rfl, rfl, by decide +kernel, rfl, by decide +kernel, by decide +kernel⟩
abbrev s_tell_zeros : Stmt := topS 68
theorem sc_tell_zeros : FnScope ["spread", "numbers", "row", "j", "low", "high", "angles"] ["spread", "numbers", "row"] (defScope s_tell_zeros) := ⟨rfl, rfl, rfl, by decide +kernel, rfl, by decide +kernel, by decide +kernel⟩
abbrev s_tell_square : Stmt := topS 69
theorem sc_tell_square : FnScope ["spread", "numbers", "row"] ["spread", "numbers", "row"] (defScope s_tell_square) := ⟨rfl, rfl, rfl, by decide +kernel, rfl, by decide +kernel, by decide +kernel⟩
abbrev s_answer : Stmt := topS 71
theorem sc_answer : FnScope ["spread", "number", "numbers", "row"] ["spread", "number", "numbers", "row"] (defScope s_answer) := ⟨rfl, rfl, rfl, by decide +kernel, rfl, by decide +kernel, by decide +kernel⟩
abbrev s_answers : Stmt := topS 75
theorem sc_answers : FnScope ["calls", "spread", "told", "at", "number", "row_at", "numbers", "row", "answered"] ["calls"] (defScope s_answers) := ⟨rfl, rfl, rfl, by decide +kernel, rfl, by decide +kernel, by decide +kernel⟩
/-- an int of the top -/
structure CnI (mg : Str → Option Value) (x : Str) (i : Int) : Type where
  u : Value
  g : mg x = some u
  r : RelV (.int i) u
/-- a tuple of the top -/
structure CnT (K : PySem.W.Frag) (mg : Str → Option Value) (x : Str) (xs : List V) : Type where
  a : Addr
  g : mg x = some (.ref a)
  r : RelV (.ref a) (.ref a)
  t : ∀ H, SqT K H a xs
/-- a class of the top with an __init__ of one parameter -/
structure Cla (K : PySem.W.Frag) (mg : Str → Option Value) (x : Str) (q : Str) (st : Stmt) (attrs : List Str) : Type where
  C : Addr
  f : Addr
  fd : FuncData
  g : mg x = some (.ref C)
  made : Mk K C f
  cl : Cls K C
  F : Fun K "__init__" q st f fd
  b : Binds K fd ["self"] []
  na : ∀ y ∈ attrs, NoAttr K C y
/-- a dict of the top with int keys -/
structure KTb (K : PySem.W.Frag) (mg : Str → Option Value) (x : Str) (names : List (Int × Str)) : Type where
  d : Addr
  es : Array DictEntry
  n : Nat
  g : mg x = some (.ref d)
  r : RelV (.ref d) (.ref d)
  D : KInt K d es n
  v : ∀ q ∈ names, findBy Value.isInt es q.1 = mg q.2
def tab_CALLS : List (Int × Str) := [(0, "begin"), (1, "set_mean"), (2, "set_row"), (3, "put"), (4, "move"), (5, "tell_means"), (6, "tell_mean"), (7, "tell_fits"), (8, "tell_strict"), (9, "tell_proof"), (10, "tell_angle"), (11, "tell_turns"), (12, "tell_rank"), (13, "tell_most"), (14, "take"), (15, "tell_zeros"), (16, "tell_square")]
abbrev i_Angles : Stmt := inClass (topS 22) 0
abbrev i_Spread : Stmt := inClass (topS 36) 0
structure Txt (K : PySem.W.Frag) (mg : Str → Option Value) : Type where
  shared_part : Df K mg "shared_part" s_shared_part ["a", "b"]
  fraction : Df K mg "fraction" s_fraction ["upper", "lower"]
  plus : Df K mg "plus" s_plus ["x", "y"]
  less : Df K mg "less" s_less ["x", "y"]
  times : Df K mg "times" s_times ["x", "y"]
  is_less : Df K mg "is_less" s_is_less ["x", "y"]
  divided : Df K mg "divided" s_divided ["x", "y"]
  too_long : Df K mg "too_long" s_too_long ["x"]
  power_alone : Df K mg "power_alone" s_power_alone ["power"]
  mean_with_power : Df K mg "mean_with_power" s_mean_with_power ["factors", "power", "means"]
  mean_of : Df K mg "mean_of" s_mean_of ["factors", "means"]
  mean_of_product : Df K mg "mean_of_product" s_mean_of_product ["factors", "other", "means"]
  mean_of_square : Df K mg "mean_of_square" s_mean_of_square ["factors", "means"]
  value_at : Df K mg "value_at" s_value_at ["factors", "place"]
  times_power_plus : Df K mg "times_power_plus" s_times_power_plus ["factors", "shift"]
  less_often : Df K mg "less_often" s_less_often ["factors", "other", "often"]
  less_found : Df K mg "less_found" s_less_found ["power", "found", "means"]
  first_power_met : Df K mg "first_power_met" s_first_power_met ["factors", "k", "means"]
  proof_with_power : Df K mg "proof_with_power" s_proof_with_power ["power", "rest", "means"]
  proof_from : Df K mg "proof_from" s_proof_from ["rest", "size", "k", "means"]
  at_right_angles : Df K mg "at_right_angles" s_at_right_angles ["k", "means"]
  fits_at_all : Df K mg "fits_at_all" s_fits_at_all ["angles"]
  fits_strictly : Df K mg "fits_strictly" s_fits_strictly ["angles", "k"]
  all_found_up_to : Df K mg "all_found_up_to" s_all_found_up_to ["angles", "power"]
  turn : Df K mg "turn" s_turn ["found", "power", "means"]
  most_at : Df K mg "most_at" s_most_at ["found", "place"]
  zeros_above : Df K mg "zeros_above" s_zeros_above ["found", "power", "place"]
  first_means : Df K mg "first_means" s_first_means ["k"]
  with_point : Df K mg "with_point" s_with_point ["means", "place", "weight"]
  moved : Df K mg "moved" s_moved ["means", "step"]
  is_small_fraction : Df K mg "is_small_fraction" s_is_small_fraction ["upper", "lower"]
  is_small_polynomial : Df K mg "is_small_polynomial" s_is_small_polynomial ["row", "longest"]
  whole_factors : Df K mg "whole_factors" s_whole_factors ["row"]
  with_fractions : Df K mg "with_fractions" s_with_fractions ["first", "fractions"]
  keep_unless_long : Df K mg "keep_unless_long" s_keep_unless_long ["spread", "changed"]
  angles_of : Df K mg "angles_of" s_angles_of ["spread"]
  begin : Df K mg "begin" s_begin ["spread", "numbers", "row"]
  set_mean : Df K mg "set_mean" s_set_mean ["spread", "numbers", "row"]
  set_row : Df K mg "set_row" s_set_row ["spread", "numbers", "row"]
  put : Df K mg "put" s_put ["spread", "numbers", "row"]
  move : Df K mg "move" s_move ["spread", "numbers", "row"]
  tell_means : Df K mg "tell_means" s_tell_means ["spread", "numbers", "row"]
  tell_mean : Df K mg "tell_mean" s_tell_mean ["spread", "numbers", "row"]
  tell_fits : Df K mg "tell_fits" s_tell_fits ["spread", "numbers", "row"]
  tell_strict : Df K mg "tell_strict" s_tell_strict ["spread", "numbers", "row"]
  tell_proof : Df K mg "tell_proof" s_tell_proof ["spread", "numbers", "row"]
  tell_angle : Df K mg "tell_angle" s_tell_angle ["spread", "numbers", "row"]
  tell_turns : Df K mg "tell_turns" s_tell_turns ["spread", "numbers", "row"]
  tell_rank : Df K mg "tell_rank" s_tell_rank ["spread", "numbers", "row"]
  tell_most : Df K mg "tell_most" s_tell_most ["spread", "numbers", "row"]
  take : Df K mg "take" s_take ["spread", "numbers", "row"]
  tell_zeros : Df K mg "tell_zeros" s_tell_zeros ["spread", "numbers", "row"]
  tell_square : Df K mg "tell_square" s_tell_square ["spread", "numbers", "row"]
  answer : Df K mg "answer" s_answer ["spread", "number", "numbers", "row"]
  answers : Df K mg "answers" s_answers ["calls"]
  abs : mg "abs" = none
  len : mg "len" = none
  range : mg "range" = none
  list : mg "list" = none
  all : mg "all" = none
  reversed : mg "reversed" = none
  ZERO : CnT K mg "ZERO" [.int 0, .int 1]
  ONE : CnT K mg "ONE" [.int 1, .int 1]
  TWO : CnT K mg "TWO" [.int 2, .int 1]
  Angles : Cla K mg "Angles" "Angles.__init__" i_Angles ["found", "proof"]
  Spread : Cla K mg "Spread" "Spread.__init__" i_Spread ["k", "means"]
  NO_SUCH_POWER : CnI mg "NO_SUCH_POWER" (-2)
  NOT_BEGUN : CnI mg "NOT_BEGUN" (-11)
  NOT_TAKEN : CnI mg "NOT_TAKEN" (-22)
  NOT_TOLD : CnI mg "NOT_TOLD" (-33)
  TOO_LONG : CnI mg "TOO_LONG" (-75)
  BEGIN : CnI mg "BEGIN" (0)
  CALLS : KTb K mg "CALLS" tab_CALLS
  PLAIN_NUMBERS : CnT K mg "PLAIN_NUMBERS" ([1, 3, 1, 4, 2, 0, 0, 0, 0, 0, 1, 0, 0, 2, 2, 5, 0].map V.int)
  WITH_A_ROW : CnT K mg "WITH_A_ROW" ([2, 6, 16].map V.int)
theorem Txt.b0 {K : PySem.W.Frag} {mg : Str → Option Value} (T : Txt K mg) : findBy Value.isInt T.CALLS.es 0 = some (.ref T.begin.f) := (T.CALLS.v (0, "begin") (by simp [tab_CALLS])).trans T.begin.g
theorem Txt.b1 {K : PySem.W.Frag} {mg : Str → Option Value} (T : Txt K mg) : findBy Value.isInt T.CALLS.es 1 = some (.ref T.set_mean.f) := (T.CALLS.v (1, "set_mean") (by simp [tab_CALLS])).trans T.set_mean.g
theorem Txt.b2 {K : PySem.W.Frag} {mg : Str → Option Value} (T : Txt K mg) : findBy Value.isInt T.CALLS.es 2 = some (.ref T.set_row.f) := (T.CALLS.v (2, "set_row") (by simp [tab_CALLS])).trans T.set_row.g
theorem Txt.b3 {K : PySem.W.Frag} {mg : Str → Option Value} (T : Txt K mg) : findBy Value.isInt T.CALLS.es 3 = some (.ref T.put.f) := (T.CALLS.v (3, "put") (by simp [tab_CALLS])).trans T.put.g
theorem Txt.b4 {K : PySem.W.Frag} {mg : Str → Option Value} (T : Txt K mg) : findBy Value.isInt T.CALLS.es 4 = some (.ref T.move.f) := (T.CALLS.v (4, "move") (by simp [tab_CALLS])).trans T.move.g
theorem Txt.b5 {K : PySem.W.Frag} {mg : Str → Option Value} (T : Txt K mg) : findBy Value.isInt T.CALLS.es 5 = some (.ref T.tell_means.f) := (T.CALLS.v (5, "tell_means") (by simp [tab_CALLS])).trans T.tell_means.g
theorem Txt.b6 {K : PySem.W.Frag} {mg : Str → Option Value} (T : Txt K mg) : findBy Value.isInt T.CALLS.es 6 = some (.ref T.tell_mean.f) := (T.CALLS.v (6, "tell_mean") (by simp [tab_CALLS])).trans T.tell_mean.g
theorem Txt.b7 {K : PySem.W.Frag} {mg : Str → Option Value} (T : Txt K mg) : findBy Value.isInt T.CALLS.es 7 = some (.ref T.tell_fits.f) := (T.CALLS.v (7, "tell_fits") (by simp [tab_CALLS])).trans T.tell_fits.g
theorem Txt.b8 {K : PySem.W.Frag} {mg : Str → Option Value} (T : Txt K mg) : findBy Value.isInt T.CALLS.es 8 = some (.ref T.tell_strict.f) := (T.CALLS.v (8, "tell_strict") (by simp [tab_CALLS])).trans T.tell_strict.g
theorem Txt.b9 {K : PySem.W.Frag} {mg : Str → Option Value} (T : Txt K mg) : findBy Value.isInt T.CALLS.es 9 = some (.ref T.tell_proof.f) := (T.CALLS.v (9, "tell_proof") (by simp [tab_CALLS])).trans T.tell_proof.g
theorem Txt.b10 {K : PySem.W.Frag} {mg : Str → Option Value} (T : Txt K mg) : findBy Value.isInt T.CALLS.es 10 = some (.ref T.tell_angle.f) := (T.CALLS.v (10, "tell_angle") (by simp [tab_CALLS])).trans T.tell_angle.g
theorem Txt.b11 {K : PySem.W.Frag} {mg : Str → Option Value} (T : Txt K mg) : findBy Value.isInt T.CALLS.es 11 = some (.ref T.tell_turns.f) := (T.CALLS.v (11, "tell_turns") (by simp [tab_CALLS])).trans T.tell_turns.g
theorem Txt.b12 {K : PySem.W.Frag} {mg : Str → Option Value} (T : Txt K mg) : findBy Value.isInt T.CALLS.es 12 = some (.ref T.tell_rank.f) := (T.CALLS.v (12, "tell_rank") (by simp [tab_CALLS])).trans T.tell_rank.g
theorem Txt.b13 {K : PySem.W.Frag} {mg : Str → Option Value} (T : Txt K mg) : findBy Value.isInt T.CALLS.es 13 = some (.ref T.tell_most.f) := (T.CALLS.v (13, "tell_most") (by simp [tab_CALLS])).trans T.tell_most.g
theorem Txt.b14 {K : PySem.W.Frag} {mg : Str → Option Value} (T : Txt K mg) : findBy Value.isInt T.CALLS.es 14 = some (.ref T.take.f) := (T.CALLS.v (14, "take") (by simp [tab_CALLS])).trans T.take.g
theorem Txt.b15 {K : PySem.W.Frag} {mg : Str → Option Value} (T : Txt K mg) : findBy Value.isInt T.CALLS.es 15 = some (.ref T.tell_zeros.f) := (T.CALLS.v (15, "tell_zeros") (by simp [tab_CALLS])).trans T.tell_zeros.g
theorem Txt.b16 {K : PySem.W.Frag} {mg : Str → Option Value} (T : Txt K mg) : findBy Value.isInt T.CALLS.es 16 = some (.ref T.tell_square.f) := (T.CALLS.v (16, "tell_square") (by simp [tab_CALLS])).trans T.tell_square.g
theorem Txt.nFound {K : PySem.W.Frag} {mg : Str → Option Value} (T : Txt K mg) : NoAttr K T.Angles.C "found" := T.Angles.na _ (by simp)
theorem Txt.nProof {K : PySem.W.Frag} {mg : Str → Option Value} (T : Txt K mg) : NoAttr K T.Angles.C "proof" := T.Angles.na _ (by simp)
theorem Txt.nK {K : PySem.W.Frag} {mg : Str → Option Value} (T : Txt K mg) : NoAttr K T.Spread.C "k" := T.Spread.na _ (by simp)
theorem Txt.nMeans {K : PySem.W.Frag} {mg : Str → Option Value} (T : Txt K mg) : NoAttr K T.Spread.C "means" := T.Spread.na _ (by simp)
/-- what long divisions ask -/
structure Bs (P : Program) (base : Heap) : Prop where
  sr : base.NoSeer
  tr : P.given.tree = none
end Sm


/-! # The fractions' defs -/
namespace Sm
open PySem PySem.Spec PyProof.Rows L2 Evl
open Sr58 (Frac frac plus times whole)
open Sr66 (minus over zero neg)
/-! ### mathematics -/
def gcdI (a b : Int) : Int := (Nat.gcd a.natAbs b.natAbs : Nat)
def fracI (u l : Int) : Frac := if l < 0 then frac (-u) l.natAbs else frac u l.natAbs
theorem gcd_turn {a b : Nat} (h : b ≠ 0) : Nat.gcd a b = Nat.gcd b (a % b) := by
  rw [Nat.gcd_comm a b, Nat.gcd_rec b a, Nat.gcd_comm]
theorem gcdI_pos {u l : Int} (h : l ≠ 0) : 0 < gcdI u l := by
  have : 0 < Nat.gcd u.natAbs l.natAbs := Nat.gcd_pos_of_pos_right _ (by omega)
  unfold gcdI
  omega
theorem fdiv_same {a g : Int} (hg : 0 < g) (h : g ∣ a) : a.fdiv g = a / g := Int.fdiv_eq_ediv_of_dvd h
theorem fdiv_turned {a g : Int} (hg : 0 < g) (h : g ∣ a) : a.fdiv (-g) = -(a / g) := by
  rw [Int.fdiv_neg (by omega), if_pos h, fdiv_same hg h]
theorem dvd_u (u l : Int) : gcdI u l ∣ u := Int.ofNat_dvd_left.mpr (Nat.gcd_dvd_left _ _)
theorem dvd_l (u l : Int) : gcdI u l ∣ l := Int.ofNat_dvd_left.mpr (Nat.gcd_dvd_right _ _)
theorem fracI_pos {u l : Int} (h : 0 < l) : fracI u l = ⟨u / gcdI u l, (l / gcdI u l).toNat⟩ := by
  unfold fracI
  obtain ⟨d, rfl⟩ : ∃ d : Nat, l = (d : Int) := ⟨l.natAbs, by omega⟩
  rw [if_neg (by omega), Int.natAbs_natCast, frac_eq (by omega)]
  unfold gcdI
  rw [Int.natAbs_natCast, ← Int.natCast_ediv, Int.toNat_natCast]
theorem fracI_neg {u l : Int} (h : l < 0) : fracI u l = ⟨-(u / gcdI u l), (-(l / gcdI u l)).toNat⟩ := by
  have hg := gcdI_pos (u := u) (l := l) (by omega)
  have h1 := dvd_u u l
  have h2 := dvd_l u l
  unfold fracI
  rw [if_pos h, frac_eq (by omega), Int.natAbs_neg]
  have e1 : ((Nat.gcd u.natAbs l.natAbs : Nat) : Int) = gcdI u l := rfl
  rw [e1]
  congr 1
  · exact Int.neg_ediv_of_dvd h1
  · obtain ⟨d, rfl⟩ : ∃ d : Nat, l = -(d : Int) := ⟨l.natAbs, by omega⟩
    rw [← Int.neg_ediv_of_dvd h2, Int.neg_neg]
    unfold gcdI
    rw [Int.natAbs_neg, Int.natAbs_natCast, ← Int.natCast_ediv, Int.toNat_natCast]
theorem fracI_plus {x y : Frac} (hx : 0 < x.d) (hy : 0 < y.d) : fracI (x.n * y.d + y.n * x.d) (x.d * y.d) = plus x y := by
  have h : ((x.d : Int) * y.d) = ((x.d * y.d : Nat) : Int) := by push_cast; rfl
  unfold fracI
  rw [h, if_neg (by omega)]
  rfl
theorem fracI_times {x y : Frac} (hx : 0 < x.d) (hy : 0 < y.d) : fracI (x.n * y.n) (x.d * y.d) = times x y := by
  have h : ((x.d : Int) * y.d) = ((x.d * y.d : Nat) : Int) := by push_cast; rfl
  unfold fracI
  rw [h, if_neg (by omega)]
  rfl
theorem fracI_minus {x y : Frac} (hx : 0 < x.d) (hy : 0 < y.d) : fracI (x.n * y.d - y.n * x.d) (x.d * y.d) = minus x y := by
  have h : ((x.d : Int) * y.d) = ((x.d * y.d : Nat) : Int) := by push_cast; rfl
  unfold fracI
  rw [h, if_neg (by omega)]
  show frac _ _ = frac _ _
  congr 1
  show _ = x.n * (y.d : Int) + (-y.n) * (x.d : Int)
  rw [Int.neg_mul]
  omega
theorem fracI_over {x y : Frac} (hx : 0 < x.d) (hy : y.n ≠ 0) : fracI (x.n * y.d) (x.d * y.n) = over x y := by
  have hx' : (0 : Int) < x.d := by omega
  have e : ((x.d : Int) * y.n).natAbs = x.d * y.n.natAbs := by rw [Int.natAbs_mul]; simp
  unfold fracI over
  rw [e]
  by_cases c : y.n < 0
  · rw [if_pos c, if_pos (Int.mul_neg_of_pos_of_neg hx' c)]
  · rw [if_neg c, if_neg]
    have : 0 ≤ (x.d : Int) * y.n := Int.mul_nonneg (by omega) (by omega)
    omega
theorem fracI_nat {u : Int} {l : Nat} : fracI u (l : Int) = frac u l := by
  unfold fracI
  rw [if_neg (by omega)]
  simp
/-- a fraction that may be reckoned with -/
structure Fi (x : Frac) : Prop where
  nf : Nf x
  n : Fit x.n
  d : Fit (x.d : Int)
/-! ### the defs -/
section
variable {P : Program} {w : World} {K : PySem.W.Frag} {mg : Str → Option Value} {base : Heap}
theorem len2 {R R' : PV} {vs : List V} {H : Hp} (h : AC R (AC R' A0) vs H) : vs.length = 2 := by
  obtain ⟨v, r, rfl, _, u, r', rfl, _, h⟩ := h
  obtain rfl : r' = [] := h
  rfl
def sp_shared_part : Sp := spF (fun _ : Int × Int => True) (fun a => AC (Is (.int a.1)) (AC (Is (.int a.2)) A0)) (fun a => Is (.int (gcdI a.1 a.2)))
theorem ok_shared_part (T : Txt K mg) (B : Bs P base) : FnOk P w K mg base CX0 1 T.shared_part.f T.shared_part.fd ["a", "b"] sp_shared_part := by
  refine ok_spF T.shared_part sc_shared_part (fun a vs H h => len2 h) fun cdv Ar outer s H Q E a vs hr _ ha q => ?_
  obtain ⟨_, _, rfl, rfl, _, _, rfl, rfl, rfl⟩ := ha
  obtain ⟨a, b⟩ := a
  refine ⟨_, (pss_cons (ps_set (i := 2) sc_shared_part.nd rfl (Or.inl rfl) (pe_callB call_abs (by rfl) T.abs (by decide +kernel) (pa_cons (pv 0) pa_nil)))
      (pss_cons (ps_set (i := 3) sc_shared_part.nd rfl (Or.inl rfl) (pe_callB call_abs (by rfl) T.abs (by decide +kernel) (pa_cons (pv 1) pa_nil)))
      (pss_cons (ps_while PassesOwn.never (pt_cmpR op_ne (pv 3) pe_int (nomark _)) (pss_cons (ps_set (i := 4) sc_shared_part.nd rfl (Or.inl rfl) (pe_op op_mod (pv 2) (pv 3)))
      (pss_cons (ps_set (i := 2) sc_shared_part.nd rfl (Or.inl rfl) (pv 3))
      (pss_one (ps_set (i := 3) sc_shared_part.nd rfl (Or.inl rfl) (pv 4))))))
      (pss_one (ps_ret (pv 2)))))), ?_⟩
  refine ⟨_, rfl, a, rfl, _, rfl, b, rfl, ?_⟩
  have ea : ∀ i : Int, (if i < 0 then -i else i) = (i.natAbs : Int) := fun i => by split <;> omega
  rw [ea a, ea b]
  refine while_by (fun σ H' => ∃ (m n : Nat) (z : Option V), σ = [some (.int a), some (.int b), some (.int m), some (.int n), z] ∧ H' = H ∧ Nat.gcd m n = Nat.gcd a.natAbs b.natAbs)
    (fun σ _ => match σ with | [_, _, _, some (.int n), _] => n.toNat | _ => 0) ⟨a.natAbs, b.natAbs, none, rfl, rfl, rfl⟩ ?_ ?_
  · rintro σ H' ⟨m, n, z, rfl, rfl, hg⟩
    refine ⟨_, rfl, rfl, _, rfl, ?_⟩
    by_cases c : n = 0
    · subst c
      have e : (!decide (V.int ((0 : Nat) : Int) = V.int 0)) = false := by decide
      refine ite_f e ?_
      refine ⟨_, rfl, q _ _ (Ex.refl _) ?_⟩
      have : m = Nat.gcd a.natAbs b.natAbs := by rw [← hg, Nat.gcd_zero_right]
      rw [this]
      rfl
    · have e : (!decide (V.int (n : Int) = V.int 0)) = true := by
        have : ¬ V.int (n : Int) = V.int 0 := fun z => by
          have z2 := V.int.inj z
          omega
        rw [decide_eq_false this]
        rfl
      refine ite_t e ?_
      refine ⟨_, rfl, _, rfl, _, _, rfl, rfl, (by show (0 : Int) < n; omega), _, rfl, _, rfl, ⟨n, m % n, some (.int (m % n : Nat)), ?_, rfl, ?_⟩, ?_⟩
      · show [_, _, _, _, _] = _
        simp
      · rw [← gcd_turn c, hg]
      · show ((m : Int) % (n : Int)).toNat < ((n : Int)).toNat
        have := Nat.mod_lt m (show 0 < n by omega)
        rw [← Int.natCast_emod]
        simp only [Int.toNat_natCast]
        exact this
  · rintro σ H' Q1 Q2 h ⟨x, hx, y, k, e, r⟩
    exact ⟨x, hx, y, k, e, h _ _ r⟩
def sp_fraction (K : PySem.W.Frag) : Sp := spF (fun a : Int × Int => a.2 ≠ 0) (fun a => AC (Is (.int a.1)) (AC (Is (.int a.2)) A0)) (fun a => Fr K (fracI a.1 a.2))
theorem ok_fraction (T : Txt K mg) (B : Bs P base) : FnOk P w K mg base CX0 41 T.fraction.f T.fraction.fd ["upper", "lower"] (sp_fraction K) := by
  refine ok_spF T.fraction sc_fraction (fun a vs H h => len2 h) fun cdv Ar outer s H Q E a vs hr hp ha q => ?_
  obtain ⟨_, _, rfl, rfl, _, _, rfl, rfl, rfl⟩ := ha
  obtain ⟨u, l⟩ := a
  have far : Far (cxOf CX0 P w K mg base ["upper", "lower", "divisor"] "fraction" (defScope s_fraction) T.fraction.f cdv Ar outer s H E).nox :=
    ⟨B.sr, B.tr, by have := hr.dp; exact Nat.lt_of_le_of_lt (Nat.add_le_add_left (by decide) _) this, rfl, rfl, rfl⟩
  refine ⟨_, (pss_cons (ps_set (i := 2) sc_fraction.nd rfl (Or.inl rfl) (pe_df T.shared_part (ok_shared_part T B) hr (pa_cons (pv 0) (pa_cons (pv 1) pa_nil))))
      (pss_cons (ps_if (pt_cmpR op_lt (pv 1) pe_int (nomark _)) (pss_one (ps_set (i := 2) sc_fraction.nd rfl (Or.inl rfl) (pe_un un_neg (pv 2)))) pss_nil)
      (pss_one (ps_ret (pe_tup (pa_cons (pe_op (op_fdivA far) (pv 0) (pv 2)) (pa_cons (pe_op (op_fdivA far) (pv 1) (pv 2)) pa_nil))))))), ?_⟩
  have hp : l ≠ 0 := hp
  have hg : 0 < gcdI u l := gcdI_pos hp
  have d1 := dvd_u u l
  have d2 := dvd_l u l
  refine sp_asg (ep_call (u, l) trivial (ea_c (ep_v rfl) (mo_is _) (ea_c (ep_v rfl) (mo_is _) ea_n))) fun v H1 e1 hv => ?_
  obtain rfl : v = _ := hv
  refine sp_if (et_t (ep_lt (ep_v rfl) ep_c)) (fun c H2 e2 => ?_) fun c H2 e2 => ?_
  · have c' : l < 0 := of_decide_eq_true c
    refine sp_asg (ep_neg (ep_v rfl)) fun v H3 e3 hv => ?_
    obtain rfl : v = _ := hv
    refine sp_ret (ep_tup2 (K := K) (ep_opC (ep_v rfl) (ep_v rfl) (by show -gcdI u l ≠ 0; omega)) (ep_opC (ep_v rfl) (ep_v rfl) (by show -gcdI u l ≠ 0; omega))) fun v H4 e4 r => q v H4 (((e1.trans e2).trans e3).trans e4) ?_
    show Fr K (fracI u l) v H4
    rw [fracI_neg c']
    unfold Fr
    have e : -(l / gcdI u l) = ((-(l / gcdI u l)).toNat : Int) := by
      have : l / gcdI u l ≤ 0 := by
        obtain ⟨z, hz⟩ := d2
        have e0 : l / gcdI u l = z := by
          conv => lhs; lhs; rw [hz]
          exact Int.mul_ediv_cancel_left _ (by omega)
        rw [e0]
        by_cases c3 : 0 < z
        · have := Int.mul_pos hg c3
          omega
        · omega
      omega
    show Tu K [.int (-(u / gcdI u l)), .int (((-(l / gcdI u l)).toNat : Nat) : Int)] v H4
    rw [← e, ← fdiv_turned hg d1, ← fdiv_turned hg d2]
    exact r
  · have c' : ¬ l < 0 := of_decide_eq_false c
    have c2 : 0 < l := by have : l ≠ 0 := hp; omega
    refine sp_ret (ep_tup2 (K := K) (ep_opC (ep_v rfl) (ep_v rfl) (by show gcdI u l ≠ 0; omega)) (ep_opC (ep_v rfl) (ep_v rfl) (by show gcdI u l ≠ 0; omega))) fun v H4 e4 r => q v H4 ((e1.trans e2).trans e4) ?_
    show Fr K (fracI u l) v H4
    rw [fracI_pos c2]
    unfold Fr
    have e : l / gcdI u l = ((l / gcdI u l).toNat : Int) := by
      have : 0 ≤ l / gcdI u l := Int.ediv_nonneg (by omega) (by omega)
      omega
    show Tu K [.int (u / gcdI u l), .int (((l / gcdI u l).toNat : Nat) : Int)] v H4
    rw [← e, ← fdiv_same hg d1, ← fdiv_same hg d2]
    exact r
def A2 (K : PySem.W.Frag) (a : Frac × Frac) : PA' := AC (Fr K a.1) (AC (Fr K a.2) A0)
def sp_plus (K : PySem.W.Frag) : Sp := spF (fun a : Frac × Frac => Fi a.1 ∧ Fi a.2) (A2 K) (fun a => Fr K (plus a.1 a.2))
theorem ok_plus (T : Txt K mg) (B : Bs P base) : FnOk P w K mg base CX0 42 T.plus.f T.plus.fd ["x", "y"] (sp_plus K) := by
  refine ok_spF T.plus sc_plus (fun a vs H h => len2 h) fun cdv Ar outer s H Q E a vs hr hp ha q => ?_
  obtain ⟨v0, _, rfl, hx, v1, _, rfl, hy, rfl⟩ := ha
  obtain ⟨x, y⟩ := a
  refine ⟨_, (pss_one (ps_ret (pe_df T.fraction (ok_fraction T B) hr (pa_cons (pe_op op_add (pe_op op_mulA (pe_ix ix_tup (pv 0) pe_int (fun _ _ => rfl)) (pe_ix ix_tup (pv 1) pe_int (fun _ _ => rfl))) (pe_op op_mulA (pe_ix ix_tup (pv 1) pe_int (fun _ _ => rfl)) (pe_ix ix_tup (pv 0) pe_int (fun _ _ => rfl)))) (pa_cons (pe_op op_mulA (pe_ix ix_tup (pv 0) pe_int (fun _ _ => rfl)) (pe_ix ix_tup (pv 1) pe_int (fun _ _ => rfl))) pa_nil))))), ?_⟩
  have vx : EvP (tVar 0) [some v0, some v1] H (Fr K x) := ep_var rfl hx mo_fr
  have vy : EvP (tVar 1) [some v0, some v1] H (Fr K y) := ep_var rfl hy mo_fr
  obtain ⟨fx, fy⟩ : Fi x ∧ Fi y := hp
  refine sp_ret (ep_call (x.n * y.d + y.n * x.d, (x.d : Int) * y.d) ?_ (ea_c (ep_add (ep_mul (ep_num vx) (ep_den vy) fx.n fy.d) (ep_mul (ep_num vy) (ep_den vx) fy.n fx.d)) (mo_is _) (ea_c (ep_mul (ep_den vx) (ep_den vy) fx.d fy.d) (mo_is _) ea_n))) fun v H1 e1 r => q v H1 e1 ?_
  · have h1 := fx.nf.1
    have h2 := fy.nf.1
    exact Int.ne_of_gt (Int.mul_pos (by omega) (by omega))
  · show Fr K (plus x y) v H1
    rw [← fracI_plus fx.nf.1 fy.nf.1]
    exact r
def sp_less (K : PySem.W.Frag) : Sp := spF (fun a : Frac × Frac => Fi a.1 ∧ Fi a.2) (A2 K) (fun a => Fr K (minus a.1 a.2))
theorem ok_less (T : Txt K mg) (B : Bs P base) : FnOk P w K mg base CX0 42 T.less.f T.less.fd ["x", "y"] (sp_less K) := by
  refine ok_spF T.less sc_less (fun a vs H h => len2 h) fun cdv Ar outer s H Q E a vs hr hp ha q => ?_
  obtain ⟨v0, _, rfl, hx, v1, _, rfl, hy, rfl⟩ := ha
  obtain ⟨x, y⟩ := a
  refine ⟨_, (pss_one (ps_ret (pe_df T.fraction (ok_fraction T B) hr (pa_cons (pe_op op_sub (pe_op op_mulA (pe_ix ix_tup (pv 0) pe_int (fun _ _ => rfl)) (pe_ix ix_tup (pv 1) pe_int (fun _ _ => rfl))) (pe_op op_mulA (pe_ix ix_tup (pv 1) pe_int (fun _ _ => rfl)) (pe_ix ix_tup (pv 0) pe_int (fun _ _ => rfl)))) (pa_cons (pe_op op_mulA (pe_ix ix_tup (pv 0) pe_int (fun _ _ => rfl)) (pe_ix ix_tup (pv 1) pe_int (fun _ _ => rfl))) pa_nil))))), ?_⟩
  have vx : EvP (tVar 0) [some v0, some v1] H (Fr K x) := ep_var rfl hx mo_fr
  have vy : EvP (tVar 1) [some v0, some v1] H (Fr K y) := ep_var rfl hy mo_fr
  obtain ⟨fx, fy⟩ : Fi x ∧ Fi y := hp
  refine sp_ret (ep_call (x.n * y.d - y.n * x.d, (x.d : Int) * y.d) ?_ (ea_c (ep_sub (ep_mul (ep_num vx) (ep_den vy) fx.n fy.d) (ep_mul (ep_num vy) (ep_den vx) fy.n fx.d)) (mo_is _) (ea_c (ep_mul (ep_den vx) (ep_den vy) fx.d fy.d) (mo_is _) ea_n))) fun v H1 e1 r => q v H1 e1 ?_
  · have h1 := fx.nf.1
    have h2 := fy.nf.1
    exact Int.ne_of_gt (Int.mul_pos (by omega) (by omega))
  · show Fr K (minus x y) v H1
    rw [← fracI_minus fx.nf.1 fy.nf.1]
    exact r
def sp_times (K : PySem.W.Frag) : Sp := spF (fun a : Frac × Frac => Fi a.1 ∧ Fi a.2) (A2 K) (fun a => Fr K (times a.1 a.2))
theorem ok_times (T : Txt K mg) (B : Bs P base) : FnOk P w K mg base CX0 42 T.times.f T.times.fd ["x", "y"] (sp_times K) := by
  refine ok_spF T.times sc_times (fun a vs H h => len2 h) fun cdv Ar outer s H Q E a vs hr hp ha q => ?_
  obtain ⟨v0, _, rfl, hx, v1, _, rfl, hy, rfl⟩ := ha
  obtain ⟨x, y⟩ := a
  refine ⟨_, (pss_one (ps_ret (pe_df T.fraction (ok_fraction T B) hr (pa_cons (pe_op op_mulA (pe_ix ix_tup (pv 0) pe_int (fun _ _ => rfl)) (pe_ix ix_tup (pv 1) pe_int (fun _ _ => rfl))) (pa_cons (pe_op op_mulA (pe_ix ix_tup (pv 0) pe_int (fun _ _ => rfl)) (pe_ix ix_tup (pv 1) pe_int (fun _ _ => rfl))) pa_nil))))), ?_⟩
  have vx : EvP (tVar 0) [some v0, some v1] H (Fr K x) := ep_var rfl hx mo_fr
  have vy : EvP (tVar 1) [some v0, some v1] H (Fr K y) := ep_var rfl hy mo_fr
  obtain ⟨fx, fy⟩ : Fi x ∧ Fi y := hp
  refine sp_ret (ep_call (x.n * y.n, (x.d : Int) * y.d) ?_ (ea_c (ep_mul (ep_num vx) (ep_num vy) fx.n fy.n) (mo_is _) (ea_c (ep_mul (ep_den vx) (ep_den vy) fx.d fy.d) (mo_is _) ea_n))) fun v H1 e1 r => q v H1 e1 ?_
  · have h1 := fx.nf.1
    have h2 := fy.nf.1
    exact Int.ne_of_gt (Int.mul_pos (by omega) (by omega))
  · show Fr K (times x y) v H1
    rw [← fracI_times fx.nf.1 fy.nf.1]
    exact r
def sp_is_less (K : PySem.W.Frag) : Sp := spF (fun a : Frac × Frac => Fi a.1 ∧ Fi a.2) (A2 K) (fun a => Is (.bl (Sr58.less a.1 a.2)))
theorem ok_is_less (T : Txt K mg) (B : Bs P base) : FnOk P w K mg base CX0 1 T.is_less.f T.is_less.fd ["x", "y"] (sp_is_less K) := by
  refine ok_spF T.is_less sc_is_less (fun a vs H h => len2 h) fun cdv Ar outer s H Q E a vs hr hp ha q => ?_
  obtain ⟨v0, _, rfl, hx, v1, _, rfl, hy, rfl⟩ := ha
  obtain ⟨x, y⟩ := a
  refine ⟨_, (pss_one (ps_ret (pe_cmpR op_lt (pe_op op_mulA (pe_ix ix_tup (pv 0) pe_int (fun _ _ => rfl)) (pe_ix ix_tup (pv 1) pe_int (fun _ _ => rfl))) (pe_op op_mulA (pe_ix ix_tup (pv 1) pe_int (fun _ _ => rfl)) (pe_ix ix_tup (pv 0) pe_int (fun _ _ => rfl))) (nomark _)))), ?_⟩
  have vx : EvP (tVar 0) [some v0, some v1] H (Fr K x) := ep_var rfl hx mo_fr
  have vy : EvP (tVar 1) [some v0, some v1] H (Fr K y) := ep_var rfl hy mo_fr
  obtain ⟨fx, fy⟩ : Fi x ∧ Fi y := hp
  exact sp_ret (ep_lt (ep_mul (ep_num vx) (ep_den vy) fx.n fy.d) (ep_mul (ep_num vy) (ep_den vx) fy.n fx.d)) fun v H1 e1 r => q v H1 e1 r
def sp_divided (K : PySem.W.Frag) : Sp := spF (fun a : Frac × Frac => Fi a.1 ∧ Fi a.2 ∧ a.2.n ≠ 0) (A2 K) (fun a => Fr K (over a.1 a.2))
theorem ok_divided (T : Txt K mg) (B : Bs P base) : FnOk P w K mg base CX0 42 T.divided.f T.divided.fd ["x", "y"] (sp_divided K) := by
  refine ok_spF T.divided sc_divided (fun a vs H h => len2 h) fun cdv Ar outer s H Q E a vs hr hp ha q => ?_
  obtain ⟨v0, _, rfl, hx, v1, _, rfl, hy, rfl⟩ := ha
  obtain ⟨x, y⟩ := a
  refine ⟨_, (pss_one (ps_ret (pe_df T.fraction (ok_fraction T B) hr (pa_cons (pe_op op_mulA (pe_ix ix_tup (pv 0) pe_int (fun _ _ => rfl)) (pe_ix ix_tup (pv 1) pe_int (fun _ _ => rfl))) (pa_cons (pe_op op_mulA (pe_ix ix_tup (pv 0) pe_int (fun _ _ => rfl)) (pe_ix ix_tup (pv 1) pe_int (fun _ _ => rfl))) pa_nil))))), ?_⟩
  have vx : EvP (tVar 0) [some v0, some v1] H (Fr K x) := ep_var rfl hx mo_fr
  have vy : EvP (tVar 1) [some v0, some v1] H (Fr K y) := ep_var rfl hy mo_fr
  obtain ⟨fx, fy, y0⟩ : Fi x ∧ Fi y ∧ y.n ≠ 0 := hp
  refine sp_ret (ep_call (x.n * y.d, (x.d : Int) * y.n) ?_ (ea_c (ep_mul (ep_num vx) (ep_den vy) fx.n fy.d) (mo_is _) (ea_c (ep_mul (ep_den vx) (ep_num vy) fx.d fy.n) (mo_is _) ea_n))) fun v H1 e1 r => q v H1 e1 ?_
  · have h1 := fx.nf.1
    exact Int.mul_ne_zero (by omega) y0
  · show Fr K (over x y) v H1
    rw [← fracI_over fx.nf.1 y0]
    exact r
/-- the bound -/
def long (x : Frac) : Bool := !(decide (x.n.natAbs < 10 ^ 60) && decide (x.d < 10 ^ 60))
theorem len1 {R : PV} {vs : List V} {H : Hp} (h : AC R A0 vs H) : vs.length = 1 := by
  obtain ⟨v, r, rfl, _, h⟩ := h
  obtain rfl : r = [] := h
  rfl
def sp_too_long (K : PySem.W.Frag) : Sp := spF (fun _ : Frac => True) (fun a => AC (Fr K a) A0) (fun a => Is (.bl (long a)))
theorem ok_too_long (T : Txt K mg) (B : Bs P base) : FnOk P w K mg base CX0 1 T.too_long.f T.too_long.fd ["x"] (sp_too_long K) := by
  refine ok_spF T.too_long sc_too_long (fun a vs H h => len1 h) fun cdv Ar outer s H Q E x vs hr hp ha q => ?_
  obtain ⟨v0, _, rfl, hx, rfl⟩ := ha
  refine ⟨_, (pss_cons (ps_set (i := 1) sc_too_long.nd rfl (Or.inl rfl) (pe_op op_pow pe_int pe_int))
      (pss_one (ps_ret (pe_or (pe_cmpR op_ge (pe_callB call_abs (by rfl) T.abs (by decide +kernel) (pa_cons (pe_ix ix_tup (pv 0) pe_int (fun _ _ => rfl)) pa_nil)) (pv 1) (nomark _)) (pe_one (pe_cmpR op_ge (pe_ix ix_tup (pv 0) pe_int (fun _ _ => rfl)) (pv 1) (nomark _))))))), ?_⟩
  refine sp_asg (ep_opC (C := CPow) ep_c ep_c ⟨by decide, by decide, by decide⟩) fun v H1 e1 hv => ?_
  obtain rfl : v = _ := hv
  have vx : EvP (tVar 0) [some v0, some (.int ((10 : Int) ^ (60 : Int).toNat))] H1 (Fr K x) := ep_var rfl (mo_fr _ _ _ e1 hx) mo_fr
  refine sp_ret (ep_or (ep_ge (ep_abs (ep_num vx)) (ep_v rfl)) fun _ => ep_ge (ep_den vx) (ep_v rfl)) fun v H2 e2 hv => q v H2 (e1.trans e2) ?_
  obtain rfl : v = _ := hv
  show V.bl _ = V.bl _
  congr 1
  unfold long
  have e : ((10 : Int) ^ (60 : Int).toNat) = ((10 ^ 60 : Nat) : Int) := by decide
  rw [e]
  generalize (10 ^ 60 : Nat) = b
  by_cases c1 : x.n.natAbs < b <;> by_cases c2 : x.d < b <;> simp [c1, c2] <;> omega
end
end Sm


/-! # The polynomials' defs -/
namespace Sm
open PySem PySem.Spec PyProof.Rows L2 Evl
open Sr58 (Frac frac plus times whole)
open Sr66 (minus over zero neg)
theorem len3 {R R' R2 : PV} {vs : List V} {H : Hp} (h : AC R (AC R' (AC R2 A0)) vs H) : vs.length = 3 := by
  obtain ⟨v, r, rfl, _, u, r', rfl, _, z, r2, rfl, _, h⟩ := h
  obtain rfl : r2 = [] := h
  rfl
/-- what may be reckoned -/
structure MwpOk (f : List Frac) (p : Nat) (m : List Frac) : Prop where
  idx : f.length + p ≤ m.length
  lf : f.length < 2 ^ 62
  ff : ∀ i, i < f.length → Fi (f.getD i zero)
  fm : ∀ i, i < f.length → Fi (m.getD (i + p) zero)
  ft : ∀ i, i < f.length → Fi (times (f.getD i zero) (m.getD (i + p) zero))
  fs : ∀ i, i < f.length → Fi (mwpTo f p m i)
structure MprOk (f o m : List Frac) : Prop where
  lf : f.length < 2 ^ 62
  mw : ∀ i, i < f.length → MwpOk o i m
  fw : ∀ i, i < f.length → Fi (mwp o i m)
  ff : ∀ i, i < f.length → Fi (f.getD i zero)
  ft : ∀ i, i < f.length → Fi (times (f.getD i zero) (mwp o i m))
  fs : ∀ i, i < f.length → Fi (mprTo f o m i)
abbrev MsqOk (f m : List Frac) : Prop := MprOk f f m
structure VaOk (p : List Frac) (x : Frac) : Prop where
  fx : Fi x
  fp : ∀ i, i < p.length → Fi (p.getD i zero)
  fv : ∀ k, k < p.length → Fi (vaTo p x k)
  ft : ∀ k, k < p.length → Fi (times (vaTo p x k) x)
structure TppOk (f : List Frac) (s : Frac) : Prop where
  lf : f.length < 1000
  fs : Fi s
  ff : ∀ i, i < f.length → Fi (f.getD i zero)
  ft : ∀ i, i < f.length → Fi (times (f.getD i zero) s)
  fp : ∀ i, i < f.length → Fi ((tppTo f s i).getD i zero)
structure LoOk (f o : List Frac) (c : Frac) : Prop where
  lf : f.length < 1000
  le : o.length ≤ f.length
  fc : Fi c
  ff : ∀ i, i < o.length → Fi (o.getD i zero)
  ft : ∀ i, i < o.length → Fi (times (o.getD i zero) c)
  fp : ∀ i, i < o.length → Fi ((loTo f o c i).getD i zero)
section
variable {P : Program} {w : World} {K : PySem.W.Frag} {mg : Str → Option Value} {base : Heap}
theorem fr_ZERO (T : Txt K mg) (H : Hp) : Fr K zero (.ref T.ZERO.a) H := ⟨_, rfl, T.ZERO.t H⟩
theorem fr_ONE (T : Txt K mg) (H : Hp) : Fr K (whole 1) (.ref T.ONE.a) H := ⟨_, rfl, T.ONE.t H⟩
def sp_mean_with_power (K : PySem.W.Frag) : Sp := spF (fun a : List Frac × Nat × List Frac => MwpOk a.1 a.2.1 a.2.2)
  (fun a => AC (FrL K a.1) (AC (Is (.int (a.2.1 : Int))) (AC (FrL K a.2.2) A0))) (fun a => Fr K (mwp a.1 a.2.1 a.2.2))
theorem ok_mean_with_power (T : Txt K mg) (B : Bs P base) : FnOk P w K mg base CX0 43 T.mean_with_power.f T.mean_with_power.fd ["factors", "power", "means"] (sp_mean_with_power K) := by
  refine ok_spF T.mean_with_power sc_mean_with_power (fun a vs H h => len3 h) fun cdv Ar outer s H Q E a vs hr hp ha q => ?_
  obtain ⟨f, p, m⟩ := a
  obtain ⟨vf, _, rfl, hf, _, _, rfl, rfl, vm, _, rfl, hm, rfl⟩ := ha
  have hp : MwpOk f p m := hp
  refine ⟨_, (pss_cons (ps_set (i := 3) sc_mean_with_power.nd rfl (Or.inl rfl) (pe_glob (by rfl) T.ZERO.g T.ZERO.r))
      (pss_cons (ps_for PassesOwn.never (by rfl) (pi_range1 (by rfl) T.range (pa_cons (pe_callB call_len_seq (by rfl) T.len (by decide +kernel) (pa_cons (pv 0) pa_nil)) pa_nil)) (pg_name (i := 4) sc_mean_with_power.nd rfl (Or.inl rfl)) (pss_one (ps_set (i := 3) sc_mean_with_power.nd rfl (Or.inl rfl) (pe_df T.plus (ok_plus T B) hr (pa_cons (pv 3) (pa_cons (pe_df T.times (ok_times T B) hr (pa_cons (pe_ix ix_list (pv 0) (pv 4) (fun _ _ => rfl)) (pa_cons (pe_ix ix_list (pv 2) (pe_op op_add (pv 4) (pv 1)) (fun _ _ => rfl)) pa_nil))) pa_nil))))))
      (pss_one (ps_ret (pv 3))))), ?_⟩
  refine sp_asg (ep_cR (R := Fr K zero) (fr_ZERO T)) fun v0 H0 e0 h0 => ?_
  have eF : ∀ {H1 : Hp} {σ : L2.St}, Ex H H1 → σ[0]? = some (some vf) → EvP (tVar 0) σ H1 (FrL K f) := fun e h => ep_var h (mo_frl _ _ _ e hf) mo_frl
  have eM : ∀ {H1 : Hp} {σ : L2.St}, Ex H H1 → σ[2]? = some (some vm) → EvP (tVar 2) σ H1 (FrL K m) := fun e h => ep_var h (mo_frl _ _ _ e hm) mo_frl
  refine sp_for_range (n := f.length) (ep_lenF (eF e0 rfl)) hp.lf (fun k σ H' => ∃ vt vi, σ = [some vf, some (.int p), some vm, some vt, vi] ∧ Ex H H' ∧ Fr K (mwpTo f p m k) vt H') ?_ ?_ ?_
  · intro H1 e1
    exact ⟨v0, none, rfl, e0.trans e1, mo_fr _ _ _ e1 h0⟩
  · rintro k σ H1 hk ⟨vt, vi, rfl, e1, ht⟩
    have vT : EvP (tVar 3) [some vf, some (.int p), some vm, some vt, some (.int (k : Int))] H1 (Fr K (mwpTo f p m k)) := ep_var rfl ht mo_fr
    have idx : (k : Int) + (p : Int) = ((k + p : Nat) : Int) := by push_cast; rfl
    refine sp_asg (ep_call (mwpTo f p m k, times (f.getD k zero) (m.getD (k + p) zero)) ⟨hp.fs k hk, hp.ft k hk⟩ (ea_c vT mo_fr (ea_c
      (ep_call (f.getD k zero, m.getD (k + p) zero) ⟨hp.ff k hk, hp.fm k hk⟩ (ea_c (ep_ixF (eF e1 rfl) (ep_v rfl) hk) mo_fr (ea_c (ep_ixF (eM e1 rfl) ((ep_add (ep_v rfl) (ep_v rfl)).to (by rw [idx])) (by have := hp.idx; omega)) mo_fr ea_n))) mo_fr ea_n))) fun v H2 e2 hv => ?_
    exact ⟨v, some (.int (k : Int)), rfl, e1.trans e2, hv⟩
  · rintro σ H1 ⟨vt, vi, rfl, e1, ht⟩
    exact sp_ret (ep_var rfl ht mo_fr) fun v H2 e2 hv => q v H2 (e1.trans e2) hv
def sp_mean_of (K : PySem.W.Frag) : Sp := spF (fun a : List Frac × List Frac => MwpOk a.1 0 a.2)
  (fun a => AC (FrL K a.1) (AC (FrL K a.2) A0)) (fun a => Fr K (mwp a.1 0 a.2))
theorem ok_mean_of (T : Txt K mg) (B : Bs P base) : FnOk P w K mg base CX0 44 T.mean_of.f T.mean_of.fd ["factors", "means"] (sp_mean_of K) := by
  refine ok_spF T.mean_of sc_mean_of (fun a vs H h => len2 h) fun cdv Ar outer s H Q E a vs hr hp ha q => ?_
  obtain ⟨f, m⟩ := a
  obtain ⟨vf, _, rfl, hf, vm, _, rfl, hm, rfl⟩ := ha
  refine ⟨_, (pss_one (ps_ret (pe_df T.mean_with_power (ok_mean_with_power T B) hr (pa_cons (pv 0) (pa_cons pe_int (pa_cons (pv 1) pa_nil)))))), ?_⟩
  refine sp_ret (ep_call (f, 0, m) hp (ea_c (ep_var rfl hf mo_frl) mo_frl (ea_c ep_c (mo_is _) (ea_c (ep_var rfl hm mo_frl) mo_frl ea_n)))) fun v H1 e1 hv => q v H1 e1 hv
def sp_mean_of_product (K : PySem.W.Frag) : Sp := spF (fun a : List Frac × List Frac × List Frac => MprOk a.1 a.2.1 a.2.2)
  (fun a => AC (FrL K a.1) (AC (FrL K a.2.1) (AC (FrL K a.2.2) A0))) (fun a => Fr K (mpr a.1 a.2.1 a.2.2))
theorem ok_mean_of_product (T : Txt K mg) (B : Bs P base) : FnOk P w K mg base CX0 44 T.mean_of_product.f T.mean_of_product.fd ["factors", "other", "means"] (sp_mean_of_product K) := by
  refine ok_spF T.mean_of_product sc_mean_of_product (fun a vs H h => len3 h) fun cdv Ar outer s H Q E a vs hr hp ha q => ?_
  obtain ⟨f, o, m⟩ := a
  obtain ⟨vf, _, rfl, hf, vo, _, rfl, ho, vm, _, rfl, hm, rfl⟩ := ha
  have hp : MprOk f o m := hp
  refine ⟨_, (pss_cons (ps_set (i := 3) sc_mean_of_product.nd rfl (Or.inl rfl) (pe_glob (by rfl) T.ZERO.g T.ZERO.r))
      (pss_cons (ps_for PassesOwn.never (by rfl) (pi_range1 (by rfl) T.range (pa_cons (pe_callB call_len_seq (by rfl) T.len (by decide +kernel) (pa_cons (pv 0) pa_nil)) pa_nil)) (pg_name (i := 4) sc_mean_of_product.nd rfl (Or.inl rfl)) (pss_one (ps_set (i := 3) sc_mean_of_product.nd rfl (Or.inl rfl) (pe_df T.plus (ok_plus T B) hr (pa_cons (pv 3) (pa_cons (pe_df T.times (ok_times T B) hr (pa_cons (pe_ix ix_list (pv 0) (pv 4) (fun _ _ => rfl)) (pa_cons (pe_df T.mean_with_power (ok_mean_with_power T B) hr (pa_cons (pv 1) (pa_cons (pv 4) (pa_cons (pv 2) pa_nil)))) pa_nil))) pa_nil))))))
      (pss_one (ps_ret (pv 3))))), ?_⟩
  refine sp_asg (ep_cR (R := Fr K zero) (fr_ZERO T)) fun v0 H0 e0 h0 => ?_
  have eF : ∀ {H1 : Hp} {σ : L2.St}, Ex H H1 → σ[0]? = some (some vf) → EvP (tVar 0) σ H1 (FrL K f) := fun e h => ep_var h (mo_frl _ _ _ e hf) mo_frl
  have eO : ∀ {H1 : Hp} {σ : L2.St}, Ex H H1 → σ[1]? = some (some vo) → EvP (tVar 1) σ H1 (FrL K o) := fun e h => ep_var h (mo_frl _ _ _ e ho) mo_frl
  have eM : ∀ {H1 : Hp} {σ : L2.St}, Ex H H1 → σ[2]? = some (some vm) → EvP (tVar 2) σ H1 (FrL K m) := fun e h => ep_var h (mo_frl _ _ _ e hm) mo_frl
  refine sp_for_range (n := f.length) (ep_lenF (eF e0 rfl)) hp.lf (fun k σ H' => ∃ vt vi, σ = [some vf, some vo, some vm, some vt, vi] ∧ Ex H H' ∧ Fr K (mprTo f o m k) vt H') ?_ ?_ ?_
  · intro H1 e1
    exact ⟨v0, none, rfl, e0.trans e1, mo_fr _ _ _ e1 h0⟩
  · rintro k σ H1 hk ⟨vt, vi, rfl, e1, ht⟩
    have vT : EvP (tVar 3) [some vf, some vo, some vm, some vt, some (.int (k : Int))] H1 (Fr K (mprTo f o m k)) := ep_var rfl ht mo_fr
    refine sp_asg (ep_call (mprTo f o m k, times (f.getD k zero) (mwp o k m)) ⟨hp.fs k hk, hp.ft k hk⟩ (ea_c vT mo_fr (ea_c
      (ep_call (f.getD k zero, mwp o k m) ⟨hp.ff k hk, hp.fw k hk⟩ (ea_c (ep_ixF (eF e1 rfl) (ep_v rfl) hk) mo_fr (ea_c
        (ep_call (o, k, m) (hp.mw k hk) (ea_c (eO e1 rfl) mo_frl (ea_c (ep_v rfl) (mo_is _) (ea_c (eM e1 rfl) mo_frl ea_n)))) mo_fr ea_n))) mo_fr ea_n))) fun v H2 e2 hv => ?_
    exact ⟨v, some (.int (k : Int)), rfl, e1.trans e2, hv⟩
  · rintro σ H1 ⟨vt, vi, rfl, e1, ht⟩
    exact sp_ret (ep_var rfl ht mo_fr) fun v H2 e2 hv => q v H2 (e1.trans e2) hv
def sp_mean_of_square (K : PySem.W.Frag) : Sp := spF (fun a : List Frac × List Frac => MsqOk a.1 a.2)
  (fun a => AC (FrL K a.1) (AC (FrL K a.2) A0)) (fun a => Fr K (msq a.1 a.2))
theorem ok_mean_of_square (T : Txt K mg) (B : Bs P base) : FnOk P w K mg base CX0 45 T.mean_of_square.f T.mean_of_square.fd ["factors", "means"] (sp_mean_of_square K) := by
  refine ok_spF T.mean_of_square sc_mean_of_square (fun a vs H h => len2 h) fun cdv Ar outer s H Q E a vs hr hp ha q => ?_
  obtain ⟨f, m⟩ := a
  obtain ⟨vf, _, rfl, hf, vm, _, rfl, hm, rfl⟩ := ha
  refine ⟨_, (pss_one (ps_ret (pe_df T.mean_of_product (ok_mean_of_product T B) hr (pa_cons (pv 0) (pa_cons (pv 0) (pa_cons (pv 1) pa_nil)))))), ?_⟩
  exact sp_ret (ep_call (f, f, m) hp (ea_c (ep_var rfl hf mo_frl) mo_frl (ea_c (ep_var rfl hf mo_frl) mo_frl (ea_c (ep_var rfl hm mo_frl) mo_frl ea_n)))) fun v H1 e1 hv => q v H1 e1 hv
theorem vaTo_succ {p : List Frac} {x : Frac} {k : Nat} (h : k < p.length) : vaTo p x (k + 1) = plus (times (vaTo p x k) x) (p.getD (p.length - 1 - k) zero) := by
  have hk : p.reverse[k]? = some (p.getD (p.length - 1 - k) zero) := by
    rw [List.getElem?_reverse h, List.getD_eq_getElem?_getD, List.getElem?_eq_getElem (by omega)]
    rfl
  unfold vaTo
  rw [List.take_succ, hk, List.foldl_append]
  rfl
theorem vaTo_all (p : List Frac) (x : Frac) : vaTo p x p.length = Sr71.valueAt p x := by
  unfold vaTo Sr71.valueAt
  rw [← List.length_reverse, List.take_length]
def sp_value_at (K : PySem.W.Frag) : Sp := spF (fun a : List Frac × Frac => VaOk a.1 a.2)
  (fun a => AC (FrL K a.1) (AC (Fr K a.2) A0)) (fun a => Fr K (Sr71.valueAt a.1 a.2))
theorem ok_value_at (T : Txt K mg) (B : Bs P base) : FnOk P w K mg base CX0 43 T.value_at.f T.value_at.fd ["factors", "place"] (sp_value_at K) := by
  refine ok_spF T.value_at sc_value_at (fun a vs H h => len2 h) fun cdv Ar outer s H Q E a vs hr hp ha q => ?_
  obtain ⟨f, x⟩ := a
  obtain ⟨vf, _, rfl, hf, vx, _, rfl, hx, rfl⟩ := ha
  have hp : VaOk f x := hp
  refine ⟨_, (pss_cons (ps_set (i := 2) sc_value_at.nd rfl (Or.inl rfl) (pe_glob (by rfl) T.ZERO.g T.ZERO.r))
      (pss_cons (ps_for PassesOwn.never (by rfl) (pi_reversed (by rfl) T.reversed (pa_cons (pv 0) pa_nil)) (pg_name (i := 3) sc_value_at.nd rfl (Or.inl rfl)) (pss_one (ps_set (i := 2) sc_value_at.nd rfl (Or.inl rfl) (pe_df T.plus (ok_plus T B) hr (pa_cons (pe_df T.times (ok_times T B) hr (pa_cons (pv 2) (pa_cons (pv 1) pa_nil))) (pa_cons (pv 3) pa_nil))))))
      (pss_one (ps_ret (pv 2))))), ?_⟩
  obtain ⟨af, us, rfl, haf, fsf⟩ := hf
  have fsf : Fs K H us f := fsf
  refine sp_asg (ep_cR (R := Fr K zero) (fr_ZERO T)) fun v0 H0 e0 h0 => ?_
  refine sp_for_rev (K := K) (a := af) (xs := us) (ep_v rfl) (fun k σ H' => ∃ vt vi, σ = [some (.ref af), some vx, some vt, vi] ∧ Ex H H' ∧ Fr K (vaTo f x k) vt H' ∧ k ≤ f.length) ?_ ?_ ?_ ?_
  · intro H1 e1
    exact ⟨v0, none, rfl, e0.trans e1, mo_fr _ _ _ e1 h0, Nat.zero_le _⟩
  · rintro k σ H1 ⟨vt, vi, rfl, e1, _⟩
    exact sq_of (e1 _ _ haf)
  · rintro k y σ H1 hk hy ⟨vt, vi, rfl, e1, ht, _⟩
    have hl : us.length = f.length := fsf.len
    have hk' : k < f.length := by omega
    obtain ⟨y', hy', fy⟩ := (fsf.mono e1).at (i := f.length - 1 - k) (by omega)
    rw [hl] at hy
    rw [hy] at hy'
    obtain rfl := Option.some.inj hy'
    refine sp_asg (ep_call (times (vaTo f x k) x, f.getD (f.length - 1 - k) zero) ⟨hp.ft k hk', hp.fp _ (by omega)⟩ (ea_c
      (ep_call (vaTo f x k, x) ⟨hp.fv k hk', hp.fx⟩ (ea_c (ep_var rfl ht mo_fr) mo_fr (ea_c (ep_var rfl (mo_fr _ _ _ e1 hx) mo_fr) mo_fr ea_n))) mo_fr (ea_c (ep_var rfl fy mo_fr) mo_fr ea_n))) fun v H2 e2 hv => ?_
    refine ⟨v, some y, rfl, e1.trans e2, ?_, hk'⟩
    rw [vaTo_succ hk']
    exact hv
  · rintro σ H1 ⟨vt, vi, rfl, e1, ht, _⟩
    rw [fsf.len, vaTo_all] at ht
    exact sp_ret (ep_var rfl ht mo_fr) fun v H2 e2 hv => q v H2 (e1.trans e2) hv
theorem pow_list (n : Nat) : (List.range n).map (fun _ => zero) ++ [whole 1] = Sr73.pow n := by
  unfold Sr73.pow
  congr 1
  refine List.ext_getElem (by simp) fun i h1 h2 => by simp
def sp_power_alone (K : PySem.W.Frag) : Sp := spN K (fun a : Nat => a ≤ 1000) (fun a => AC (Is (.int (a : Int))) A0) (fun a => Sr73.pow a)
theorem ok_power_alone (T : Txt K mg) (B : Bs P base) : FnOk P w K mg base CX0 1 T.power_alone.f T.power_alone.fd ["power"] (sp_power_alone K) := by
  refine ok_spN T.power_alone sc_power_alone (fun a vs H h => len1 h) fun cdv Ar outer s H Q E n vs hr hp ha q => ?_
  obtain ⟨_, _, rfl, rfl, rfl⟩ := ha
  refine ⟨_, (pss_one (ps_ret (pe_op op_cat (pe_lc (own := [("below", 1)]) (g := gName 1) (tt := tYes) (by rfl) sc_power_alone.nd  (pi_range1 (by rfl) T.range (pa_cons (pv 0) pa_nil)) (blkOk_by (own := [("below", 1)]) (N := ["power", "below"]) (sc := defScope s_power_alone) (by decide +kernel)) (fun _ _ _ _ _ => pg_name (i := 1) sc_power_alone.nd rfl (Or.inl rfl)) (fun _ _ _ _ _ => pts_nil) (fun _ _ _ _ _ => (pe_glob (by rfl) T.ZERO.g T.ZERO.r))) (pe_lst (pa_cons (pe_glob (by rfl) T.ONE.g T.ONE.r) pa_nil))))), ?_⟩
  refine sp_ret (ep_cat (K := K) (ep_frl (ep_lcR (g := fun _ => zero) (ep_v rfl) hp (fun v => rfl) (fun k H1 _ _ => ep_cR (fr_ZERO T)))) (ep_frl (ep_lst1 (ep_cR (fr_ONE T)))) ?_) fun v H1 e1 hv => q v H1 e1 ?_
  · simp
    omega
  · rw [pow_list] at hv
    exact hv
def sp_times_power_plus (K : PySem.W.Frag) : Sp := spN K (fun a : List Frac × Frac => TppOk a.1 a.2) (fun a => AC (FrL K a.1) (AC (Fr K a.2) A0)) (fun a => tpp a.1 a.2)
theorem ok_times_power_plus (T : Txt K mg) (B : Bs P base) : FnOk P w K mg base CX0 43 T.times_power_plus.f T.times_power_plus.fd ["factors", "shift"] (sp_times_power_plus K) := by
  refine ok_spN T.times_power_plus sc_times_power_plus (fun a vs H h => len2 h) fun cdv Ar outer s H Q E a vs hr hp ha q => ?_
  obtain ⟨f, c⟩ := a
  obtain ⟨vf, _, rfl, hf, vc, _, rfl, hc, rfl⟩ := ha
  have hp : TppOk f c := hp
  refine ⟨_, (pss_cons (ps_set (i := 2) sc_times_power_plus.nd rfl (Or.inl rfl) (pe_op op_cat (pe_lst (pa_cons (pe_glob (by rfl) T.ZERO.g T.ZERO.r) pa_nil)) (pv 0)))
      (pss_cons (ps_for PassesOwn.never (by rfl) (pi_range1 (by rfl) T.range (pa_cons (pe_callB call_len_seq (by rfl) T.len (by decide +kernel) (pa_cons (pv 0) pa_nil)) pa_nil)) (pg_name (i := 3) sc_times_power_plus.nd rfl (Or.inl rfl)) (pss_one (ps_asg (pe_df T.plus (ok_plus T B) hr (pa_cons (pe_ix ix_list (pv 2) (pv 3) (fun _ _ => rfl)) (pa_cons (pe_df T.times (ok_times T B) hr (pa_cons (pe_ix ix_list (pv 0) (pv 3) (fun _ _ => rfl)) (pa_cons (pv 1) pa_nil))) pa_nil))) (pg_sub (pv 2) (pv 3) set_list))))
      (pss_one (ps_ret (pv 2))))), ?_⟩
  have eF : ∀ {H1 : Hp} {σ : L2.St}, Ex H H1 → σ[0]? = some (some vf) → EvP (tVar 0) σ H1 (FrL K f) := fun e h => ep_var h (mo_frl _ _ _ e hf) mo_frl
  have eC : ∀ {H1 : Hp} {σ : L2.St}, Ex H H1 → σ[1]? = some (some vc) → EvP (tVar 1) σ H1 (Fr K c) := fun e h => ep_var h (mo_fr _ _ _ e hc) mo_fr
  refine sp_asg (ep_cat (K := K) (ep_frl (ep_lst1 (ep_cR (fr_ZERO T)))) (eF (Ex.refl _) rfl) (by have := hp.lf; simp; omega)) fun v0 H0 e0 h0 => ?_
  obtain ⟨l, us0, rfl, nl, hl0, fs0⟩ := h0
  refine sp_for_range (n := f.length) (ep_lenF (eF e0 rfl)) (by have := hp.lf; omega) (fun k σ H' => ∃ us vi, σ = [some vf, some vc, some (.ref l), vi] ∧ Ex H H' ∧ H' l = some (.lst us) ∧ Fs K H' us (tppTo f c k)) ?_ ?_ ?_
  · intro H1 e1
    exact ⟨us0, none, rfl, e0.trans e1, e1 _ _ hl0, fs0.mono e1⟩
  · rintro k σ H1 hk ⟨us, vi, rfl, e1, hl, fs⟩
    have vP : EvP (tVar 2) [some vf, some vc, some (.ref l), some (.int (k : Int))] H1 (FrL K (tppTo f c k)) := ep_var rfl ⟨l, us, rfl, hl, fs⟩ mo_frl
    have hk' : k < (tppTo f c k).length := by rw [len_tppTo]; omega
    refine sp_asgG (ep_call ((tppTo f c k).getD k zero, times (f.getD k zero) c) ⟨hp.fp k hk, hp.ft k hk⟩ (ea_c (ep_ixF vP (ep_v rfl) hk') mo_fr (ea_c
      (ep_call (f.getD k zero, c) ⟨hp.ff k hk, hp.fs⟩ (ea_c (ep_ixF (eF e1 rfl) (ep_v rfl) hk) mo_fr (ea_c (eC e1 rfl) mo_fr ea_n))) mo_fr ea_n))) fun v H2 e2 hv => ?_
    have hl2 := e2 _ _ hl
    have hu : k < us.length := by rw [fs.len]; exact hk'
    refine ⟨_, rfl, _, rfl, l, us, (k : Int), k, rfl, rfl, hl2, by unfold ixN; rw [if_pos (by omega), if_pos (by omega)]; simp, ?_⟩
    exact ⟨us.set k v, some (.int (k : Int)), rfl, Ex.mut (e1.trans e2) nl, upd_same, Fs.set (fr_upd hl2 hv) (fs_upd hl2 (fs.mono e2))⟩
  · rintro σ H1 ⟨us, vi, rfl, e1, hl, fs⟩
    exact sp_ret (ep_v rfl) fun v H2 e2 hv => q v H2 (e1.trans e2) ⟨l, us, hv, nl, e2 _ _ hl, fs.mono e2⟩
def sp_less_often (K : PySem.W.Frag) : Sp := spN K (fun a : List Frac × List Frac × Frac => LoOk a.1 a.2.1 a.2.2) (fun a => AC (FrL K a.1) (AC (FrL K a.2.1) (AC (Fr K a.2.2) A0))) (fun a => lo a.1 a.2.1 a.2.2)
theorem ok_less_often (T : Txt K mg) (B : Bs P base) : FnOk P w K mg base CX0 43 T.less_often.f T.less_often.fd ["factors", "other", "often"] (sp_less_often K) := by
  refine ok_spN T.less_often sc_less_often (fun a vs H h => len3 h) fun cdv Ar outer s H Q E a vs hr hp ha q => ?_
  obtain ⟨f, o, c⟩ := a
  obtain ⟨vf, _, rfl, hf, vo, _, rfl, ho, vc, _, rfl, hc, rfl⟩ := ha
  have hp : LoOk f o c := hp
  refine ⟨_, (pss_cons (ps_set (i := 3) sc_less_often.nd rfl (Or.inl rfl) (pe_callTy call_list_of (by rfl) T.list (by decide +kernel) (pa_cons (pv 0) pa_nil)))
      (pss_cons (ps_for PassesOwn.never (by rfl) (pi_range1 (by rfl) T.range (pa_cons (pe_callB call_len_seq (by rfl) T.len (by decide +kernel) (pa_cons (pv 1) pa_nil)) pa_nil)) (pg_name (i := 4) sc_less_often.nd rfl (Or.inl rfl)) (pss_one (ps_asg (pe_df T.less (ok_less T B) hr (pa_cons (pe_ix ix_list (pv 3) (pv 4) (fun _ _ => rfl)) (pa_cons (pe_df T.times (ok_times T B) hr (pa_cons (pe_ix ix_list (pv 1) (pv 4) (fun _ _ => rfl)) (pa_cons (pv 2) pa_nil))) pa_nil))) (pg_sub (pv 3) (pv 4) set_list))))
      (pss_one (ps_ret (pv 3))))), ?_⟩
  have eO : ∀ {H1 : Hp} {σ : L2.St}, Ex H H1 → σ[1]? = some (some vo) → EvP (tVar 1) σ H1 (FrL K o) := fun e h => ep_var h (mo_frl _ _ _ e ho) mo_frl
  have eC : ∀ {H1 : Hp} {σ : L2.St}, Ex H H1 → σ[2]? = some (some vc) → EvP (tVar 2) σ H1 (Fr K c) := fun e h => ep_var h (mo_fr _ _ _ e hc) mo_fr
  obtain ⟨af, usf, rfl, haf, fsf⟩ := hf
  refine ⟨_, rfl, af, usf, rfl, .inl (sq_of haf), fun l nl => ?_⟩
  have e0 : Ex H (upd H l (.lst usf)) := Ex.new nl
  refine sp_for_range (n := o.length) (ep_lenF (eO e0 rfl)) (by have := hp.lf; have := hp.le; omega) (fun k σ H' => ∃ us vi, σ = [some (.ref af), some vo, some vc, some (.ref l), vi] ∧ Ex H H' ∧ H' l = some (.lst us) ∧ Fs K H' us (loTo f o c k)) ?_ ?_ ?_
  · intro H1 e1
    exact ⟨usf, none, rfl, e0.trans e1, e1 _ _ upd_same, (fsf.mono e0).mono e1⟩
  · rintro k σ H1 hk ⟨us, vi, rfl, e1, hl, fs⟩
    have vP : EvP (tVar 3) [some (.ref af), some vo, some vc, some (.ref l), some (.int (k : Int))] H1 (FrL K (loTo f o c k)) := ep_var rfl ⟨l, us, rfl, hl, fs⟩ mo_frl
    have hk' : k < (loTo f o c k).length := by rw [len_loTo]; have := hp.le; omega
    refine sp_asgG (ep_call ((loTo f o c k).getD k zero, times (o.getD k zero) c) ⟨hp.fp k hk, hp.ft k hk⟩ (ea_c (ep_ixF vP (ep_v rfl) hk') mo_fr (ea_c
      (ep_call (o.getD k zero, c) ⟨hp.ff k hk, hp.fc⟩ (ea_c (ep_ixF (eO e1 rfl) (ep_v rfl) hk) mo_fr (ea_c (eC e1 rfl) mo_fr ea_n))) mo_fr ea_n))) fun v H2 e2 hv => ?_
    have hl2 := e2 _ _ hl
    have hu : k < us.length := by rw [fs.len]; exact hk'
    refine ⟨_, rfl, _, rfl, l, us, (k : Int), k, rfl, rfl, hl2, by unfold ixN; rw [if_pos (by omega), if_pos (by omega)]; simp, ?_⟩
    exact ⟨us.set k v, some (.int (k : Int)), rfl, Ex.mut (e1.trans e2) nl, upd_same, Fs.set (fr_upd hl2 hv) (fs_upd hl2 (fs.mono e2))⟩
  · rintro σ H1 ⟨us, vi, rfl, e1, hl, fs⟩
    exact sp_ret (ep_v rfl) fun v H2 e2 hv => q v H2 (e1.trans e2) ⟨l, us, hv, nl, e2 _ _ hl, fs.mono e2⟩
end
end Sm


/-! # The spreads' defs -/
namespace Sm
open PySem PySem.Spec PyProof.Rows L2 Evl
open Sr58 (Frac frac plus times whole)
open Sr66 (minus over zero neg)
structure WpOk (m : List Frac) (x w : Frac) : Prop where
  lm : m.length < 1000
  fx : Fi x
  fm : ∀ i, i < m.length → Fi (m.getD i zero)
  fs : ∀ i, i < m.length → Fi (shTo x w i)
structure MvOk (m : List Frac) (s : Frac) : Prop where
  lm : m.length < 1000
  tp : ∀ i, i < m.length → TppOk (raised s i) s
  mw : ∀ i, i < m.length → MwpOk (raised s i) 0 m
section
variable {P : Program} {w : World} {K : PySem.W.Frag} {mg : Str → Option Value} {base : Heap}
theorem firstM_eq (k : Nat) : [whole 1] ++ (List.range (2 * k)).map (fun _ => zero) = firstM k := by
  unfold firstM
  show whole 1 :: _ = _
  congr 1
  refine List.ext_getElem (by simp) fun i h1 h2 => by simp
def sp_first_means (K : PySem.W.Frag) : Sp := spN K (fun a : Nat => a ≤ 4) (fun a => AC (Is (.int (a : Int))) A0) (fun a => firstM a)
theorem ok_first_means (T : Txt K mg) (B : Bs P base) : FnOk P w K mg base CX0 1 T.first_means.f T.first_means.fd ["k"] (sp_first_means K) := by
  refine ok_spN T.first_means sc_first_means (fun a vs H h => len1 h) fun cdv Ar outer s H Q E n vs hr hp ha q => ?_
  obtain ⟨_, _, rfl, rfl, rfl⟩ := ha
  have hp : n ≤ 4 := hp
  refine ⟨_, (pss_one (ps_ret (pe_op op_cat (pe_lst (pa_cons (pe_glob (by rfl) T.ONE.g T.ONE.r) pa_nil)) (pe_lc (own := [("power", 1)]) (g := gName 1) (tt := tYes) (by rfl) sc_first_means.nd  (pi_range1 (by rfl) T.range (pa_cons (pe_op op_mulA pe_int (pv 0)) pa_nil)) (blkOk_by (own := [("power", 1)]) (N := ["k", "power"]) (sc := defScope s_first_means) (by decide +kernel)) (fun _ _ _ _ _ => pg_name (i := 1) sc_first_means.nd rfl (Or.inl rfl)) (fun _ _ _ _ _ => pts_nil) (fun _ _ _ _ _ => (pe_glob (by rfl) T.ZERO.g T.ZERO.r)))))), ?_⟩
  have e : (2 : Int) * (n : Int) = ((2 * n : Nat) : Int) := by push_cast; rfl
  have f1 : Fit (2 : Int) := fit_small (by decide)
  have f2 : Fit (n : Int) := fit_small (by have : (n : Int).natAbs = n := by simp
                                           rw [this]
                                           exact Nat.lt_of_le_of_lt hp (by decide))
  refine sp_ret (ep_cat (K := K) (ep_frl (ep_lst1 (ep_cR (fr_ONE T)))) (ep_frl (ep_lcR (n := 2 * n) (g := fun _ => zero) ((ep_mul ep_c (ep_v rfl) f1 f2).to (by rw [e])) (by omega) (fun v => rfl) (fun k H1 _ _ => ep_cR (fr_ZERO T)))) ?_) fun v H1 e1 hv => q v H1 e1 ?_
  · simp
    omega
  · rw [firstM_eq] at hv
    exact hv
def sp_with_point (K : PySem.W.Frag) : Sp := spN K (fun a : List Frac × Frac × Frac => WpOk a.1 a.2.1 a.2.2) (fun a => AC (FrL K a.1) (AC (Fr K a.2.1) (AC (Fr K a.2.2) A0))) (fun a => wp a.1 a.2.1 a.2.2)
theorem ok_with_point (T : Txt K mg) (B : Bs P base) : FnOk P w K mg base CX0 43 T.with_point.f T.with_point.fd ["means", "place", "weight"] (sp_with_point K) := by
  refine ok_spN T.with_point sc_with_point (fun a vs H h => len3 h) fun cdv Ar outer s H Q E a vs hr hp ha q => ?_
  obtain ⟨m, x, c⟩ := a
  obtain ⟨vm, _, rfl, hm, vx, _, rfl, hx, vc, _, rfl, hc, rfl⟩ := ha
  have hp : WpOk m x c := hp
  refine ⟨_, (pss_cons (ps_set (i := 3) sc_with_point.nd rfl (Or.inl rfl) (pe_lst pa_nil))
      (pss_cons (ps_set (i := 4) sc_with_point.nd rfl (Or.inl rfl) (pv 2))
      (pss_cons (ps_for PassesOwn.never (by rfl) (pi_list (pv 0)) (pg_name (i := 5) sc_with_point.nd rfl (Or.inl rfl)) (pss_cons (ps_expr (pe_bm PySem.F.plainAttrs_list PySem.F.slot_list_append PySem.F.type_list_append mt_append (pv 3) (pa_cons (pe_df T.plus (ok_plus T B) hr (pa_cons (pv 5) (pa_cons (pv 4) pa_nil))) pa_nil)))
      (pss_one (ps_set (i := 4) sc_with_point.nd rfl (Or.inl rfl) (pe_df T.times (ok_times T B) hr (pa_cons (pv 4) (pa_cons (pv 1) pa_nil)))))))
      (pss_one (ps_ret (pv 3)))))), ?_⟩
  obtain ⟨am, usm, rfl, ham, fsm⟩ := hm
  refine sp_asg (ep_lst0 (K := K)) fun v0 H0 e0 h0 => ?_
  obtain ⟨l, us0, rfl, nl, hl0, fs0⟩ := h0
  refine sp_asg (ep_var (R := Fr K c) rfl (mo_fr _ _ _ e0 hc) mo_fr) fun v1 H1 e1 h1 => ?_
  refine sp_for_list (K := K) (a := am) (xs := usm) (ep_v rfl) (fun k σ H' => ∃ us vs vo, σ = [some (.ref am), some vx, some vc, some (.ref l), some vs, vo] ∧ Ex H H' ∧ H' l = some (.lst us) ∧
    Fs K H' us ((List.range k).map fun i => plus (m.getD i zero) (shTo x c i)) ∧ Fr K (shTo x c k) vs H' ∧ k ≤ m.length) ?_ ?_ ?_ ?_
  · intro H2 e2
    have z : us0 = [] := by
      have := fs0.len
      exact List.length_eq_zero_iff.mp this
    subst z
    exact ⟨[], v1, none, rfl, (e0.trans e1).trans e2, e2 _ _ (e1 _ _ hl0), trivial, mo_fr _ _ _ e2 h1, Nat.zero_le _⟩
  · rintro k σ H2 ⟨us, vs, vo, rfl, e2, _⟩
    exact sq_of (e2 _ _ ham)
  · rintro k y σ H2 hy ⟨us, vs, vo, rfl, e2, hl, fs, hv, hk⟩
    have hk' : k < m.length := by
      rw [← fsm.len]
      exact (List.getElem?_eq_some_iff.mp hy).1
    obtain ⟨y', hy', fy⟩ := (fsm.mono e2).at hk'
    rw [hy] at hy'
    obtain rfl := Option.some.inj hy'
    refine sp_append (K := K) (l := l) (us := us) (ep_v rfl) hl (ep_call (m.getD k zero, shTo x c k) ⟨hp.fm k hk', hp.fs k hk'⟩ (ea_c (ep_var rfl fy mo_fr) mo_fr (ea_c (ep_var rfl hv mo_fr) mo_fr ea_n))) ?_ fun z H3 e3 hz => ?_
    · rw [fs.len, List.length_map, List.length_range]
      have := hp.lm
      omega
    · have hl3 := e3 _ _ hl
      dsimp only
      refine sp_asg (ep_call (shTo x c k, x) ⟨hp.fs k hk', hp.fx⟩ (ea_c (ep_var rfl (fr_upd hl3 (mo_fr _ _ _ e3 hv)) mo_fr) mo_fr (ea_c (ep_var rfl (fr_upd hl3 (mo_fr _ _ _ (e2.trans e3) hx)) mo_fr) mo_fr ea_n))) fun u H4 e4 hu => ?_
      refine ⟨us ++ [z], u, some y, rfl, (Ex.mut (e2.trans e3) nl).trans e4, e4 _ _ upd_same, ?_, hu, hk'⟩
      rw [List.range_succ, List.map_append]
      exact ((fs_upd hl3 (fs.mono e3)).app (Fs.one (fr_upd hl3 hz))).mono e4
  · rintro σ H2 ⟨us, vs, vo, rfl, e2, hl, fs, hv, hk⟩
    rw [fsm.len] at fs
    exact sp_ret (ep_v rfl) fun v H3 e3 hv => q v H3 (e2.trans e3) ⟨l, us, hv, nl, e3 _ _ hl, fs.mono e3⟩
def sp_moved (K : PySem.W.Frag) : Sp := spN K (fun a : List Frac × Frac => MvOk a.1 a.2) (fun a => AC (FrL K a.1) (AC (Fr K a.2) A0)) (fun a => mvd a.1 a.2)
theorem ok_moved (T : Txt K mg) (B : Bs P base) : FnOk P w K mg base CX0 45 T.moved.f T.moved.fd ["means", "step"] (sp_moved K) := by
  refine ok_spN T.moved sc_moved (fun a vs H h => len2 h) fun cdv Ar outer s H Q E a vs hr hp ha q => ?_
  obtain ⟨m, c⟩ := a
  obtain ⟨vm, _, rfl, hm, vc, _, rfl, hc, rfl⟩ := ha
  have hp : MvOk m c := hp
  refine ⟨_, (pss_cons (ps_set (i := 2) sc_moved.nd rfl (Or.inl rfl) (pe_lst pa_nil))
      (pss_cons (ps_set (i := 3) sc_moved.nd rfl (Or.inl rfl) (pe_lst (pa_cons (pe_glob (by rfl) T.ONE.g T.ONE.r) pa_nil)))
      (pss_cons (ps_for PassesOwn.never (by rfl) (pi_range1 (by rfl) T.range (pa_cons (pe_callB call_len_seq (by rfl) T.len (by decide +kernel) (pa_cons (pv 0) pa_nil)) pa_nil)) (pg_name (i := 4) sc_moved.nd rfl (Or.inl rfl)) (pss_cons (ps_expr (pe_bm PySem.F.plainAttrs_list PySem.F.slot_list_append PySem.F.type_list_append mt_append (pv 2) (pa_cons (pe_df T.mean_of (ok_mean_of T B) hr (pa_cons (pv 3) (pa_cons (pv 0) pa_nil))) pa_nil)))
      (pss_one (ps_set (i := 3) sc_moved.nd rfl (Or.inl rfl) (pe_df T.times_power_plus (ok_times_power_plus T B) hr (pa_cons (pv 3) (pa_cons (pv 1) pa_nil)))))))
      (pss_one (ps_ret (pv 2)))))), ?_⟩
  refine sp_asg (ep_lst0 (K := K)) fun v0 H0 e0 h0 => ?_
  obtain ⟨l, us0, rfl, nl, hl0, fs0⟩ := h0
  refine sp_asg (ep_lst1 (K := K) (ep_cR (fr_ONE T))) fun v1 H1 e1 h1 => ?_
  obtain ⟨lr, rs, rfl, nr, hr1, fr1⟩ := h1
  have eM : ∀ {H1 : Hp} {σ : L2.St}, Ex H H1 → σ[0]? = some (some vm) → EvP (tVar 0) σ H1 (FrL K m) := fun e h => ep_var h (mo_frl _ _ _ e hm) mo_frl
  refine sp_for_range (n := m.length) (ep_lenF (eM (e0.trans e1) rfl)) (by have := hp.lm; omega) (fun k σ H' => ∃ us lr rs vi, σ = [some vm, some vc, some (.ref l), some (.ref lr), vi] ∧ Ex H H' ∧ H' l = some (.lst us) ∧
    Fs K H' us ((List.range k).map fun i => mwp (raised c i) 0 m) ∧ lr ≠ l ∧ H' lr = some (.lst rs) ∧ Fs K H' rs (raised c k)) ?_ ?_ ?_
  · intro H2 e2
    have z : us0 = [] := by
      have := fs0.len
      exact List.length_eq_zero_iff.mp this
    subst z
    refine ⟨[], lr, rs, none, rfl, (e0.trans e1).trans e2, e2 _ _ (e1 _ _ hl0), trivial, ?_, e2 _ _ hr1, fr1.mono e2⟩
    intro z
    subst z
    rw [hl0] at nr
    cases nr
  · rintro k σ H2 hk ⟨us, lr, rs, vi, rfl, e2, hl, fs, ne, hlr, fsr⟩
    refine sp_append (K := K) (l := l) (us := us) (ep_v rfl) hl (ep_call (raised c k, m) (hp.mw k hk) (ea_c (ep_var rfl ⟨lr, rs, rfl, hlr, fsr⟩ mo_frl) mo_frl (ea_c (eM e2 rfl) mo_frl ea_n))) ?_ fun z H3 e3 hz => ?_
    · rw [fs.len, List.length_map, List.length_range]
      have := hp.lm
      omega
    · have hl3 := e3 _ _ hl
      have e4 : Ex H (upd H3 l (.lst (us ++ [z]))) := Ex.mut (e2.trans e3) nl
      dsimp only
      refine sp_asg (ep_callN (raised c k, c) (hp.tp k hk) (ea_c (ep_var rfl ⟨lr, rs, rfl, by rw [upd_ne ne]; exact e3 _ _ hlr, fs_upd hl3 (fsr.mono e3)⟩ mo_frl) mo_frl (ea_c (ep_var rfl (mo_fr _ _ _ e4 hc) mo_fr) mo_fr ea_n))) fun u H4 e5 hu => ?_
      obtain ⟨lr', rs', rfl, nr', hr', fr'⟩ := hu
      refine ⟨us ++ [z], lr', rs', some (.int (k : Int)), rfl, e4.trans e5, e5 _ _ upd_same, ?_, ?_, hr', fr'⟩
      · rw [List.range_succ, List.map_append]
        exact ((fs_upd hl3 (fs.mono e3)).app (Fs.one (fr_upd hl3 hz))).mono e5
      · intro z
        subst z
        rw [upd_same] at nr'
        cases nr'
  · rintro σ H2 ⟨us, lr, rs, vi, rfl, e2, hl, fs, ne, hlr, fsr⟩
    exact sp_ret (ep_v rfl) fun v H3 e3 hv => q v H3 (e2.trans e3) ⟨l, us, hv, nl, e3 _ _ hl, fs.mono e3⟩
end
end Sm


/-! # The object, lists of ints, and what the calls promise -/
namespace Sm
open PySem PySem.Spec PyProof.Rows L2 Evl
open Sr58 (Frac frac plus times whole)
open Sr66 (minus over zero neg)
/-! ### sizes -/
theorem fit_of {b : Nat} {i : Int} (h : i.natAbs < 2 ^ b) (hb : b ≤ 67108000) : Fit i := Nat.lt_of_lt_of_le h (Nat.pow_le_pow_right (by decide) hb)
theorem fi_of {b : Nat} {x : Frac} (n : Nf x) (h : Sz b x) (hb : b ≤ 67108000) : Fi x := ⟨n, fit_of h.1 hb, fit_of (by rw [Int.natAbs_natCast]; exact h.2) hb⟩
/-- a state that the calls leave -/
structure Good (s : Sr73.Means) : Prop where
  k1 : 1 ≤ s.k
  k4 : s.k ≤ 4
  len : s.m.length = 2 * s.k + 1
  nf : NfM s
  sm : ∀ x ∈ s.m, x.n.natAbs < 10 ^ 60 ∧ x.d < 10 ^ 60
theorem Good.sz {s : Sr73.Means} (g : Good s) : SzL 200 s.m := szl_of (by decide) fun x hx => ⟨Nat.lt_of_lt_of_le (g.sm x hx).1 (by decide), Nat.lt_of_lt_of_le (g.sm x hx).2 (by decide)⟩
def GoodS : Sr73.State → Prop
  | none => True
  | some s => Good s
/-! ### lists of ints -/
/-- a list of ints -/
def IL (ns : List Int) : PV := fun v H => ∃ a, v = .ref a ∧ H a = some (.lst (ns.map V.int))
theorem mo_il {ns : List Int} : Mo (IL ns) := fun _ _ _ e ⟨a, h, q⟩ => ⟨a, h, e _ _ q⟩
/-- a new one -/
def IN (ns : List Int) (H0 : Hp) : PV := fun v H => ∃ a, v = .ref a ∧ H0 a = none ∧ H a = some (.lst (ns.map V.int))
theorem mo_in {ns : List Int} {H0 : Hp} : Mo (IN ns H0) := fun _ _ _ e ⟨a, h, n, q⟩ => ⟨a, h, n, e _ _ q⟩
def AI (ns : List Int) : PA' := fun vs _ => vs = ns.map V.int
section
variable {K : PySem.W.Frag} {σ : L2.St} {H H' : Hp} {v x y : V} {R R' : PV} {te ta tb tc : TE} {D : Ends}
theorem ea_i {tr : TA} {i : Int} {ns : List Int} (h : EvP ta σ H (Is (.int i))) (hr : EvAP tr σ H (AI ns)) : EvAP (tCons ta tr) σ H (AI (i :: ns)) := fun H1 e Q q =>
  h H1 e _ fun v H2 e2 rv => hr H2 (e.trans e2) _ fun vs H3 e3 av => q (v :: vs) H3 (e2.trans e3) (by
    obtain rfl : v = _ := rv
    obtain rfl : vs = _ := av
    rfl)
theorem ea_in : EvAP tNil σ H (AI []) := fun H1 _ _ q => q [] H1 (Ex.refl H1) rfl
theorem ep_lstI {t : TA} {ns : List Int} (h : EvAP t σ H (AI ns)) (hl : ns.length ≤ 100000) : EvP (tLst t) σ H (IN ns H) := fun H1 e Q q =>
  h H1 e _ fun vs H2 e2 av => by
    obtain rfl : vs = _ := av
    exact ⟨sz_of (by rw [List.length_map]; exact hl), fun p hp => q _ _ (e2.trans (Ex.new hp)) ⟨p, rfl, none_back (e.trans e2) hp, upd_same⟩⟩
theorem ep_ixI {ns : List Int} {i : Nat} {n : Int} (ha : EvP ta σ H (IL ns)) (hb : EvP tb σ H (Is (.int (i : Int)))) (h : ns[i]? = some n) : EvP (tOp (rIxL K) ta tb) σ H (Is (.int n)) := fun H1 e Q q =>
  ha H1 e _ fun a H2 e2 ⟨p, ea, sq⟩ => hb H2 (e.trans e2) _ fun b H3 e3 eb => ⟨p, ns.map V.int, i, .int n, ea, eb, sq_of (e3 _ _ sq), atI_nat (by rw [List.getElem?_map, h]; rfl), q _ H3 (e2.trans e3) rfl⟩
theorem ep_lenI {ns : List Int} (ha : EvP ta σ H (IL ns)) :
    EvP (tCB (fun xs H Q => ∃ p ys, xs = [.ref p] ∧ (SqL K H p ys ∨ SqT K H p ys) ∧ Q (.int ys.length) H) (tCons ta tNil)) σ H (Is (.int (ns.length : Int))) := fun H1 e Q q =>
  ha H1 e _ fun v H2 e2 ⟨a, ea, sq⟩ => ⟨a, ns.map V.int, by rw [ea], .inl (sq_of sq), q _ H2 e2 (by rw [List.length_map]; rfl)⟩
theorem ep_is (h : EvP te σ H (Is v)) (hR : R v H) (m : Mo R) : EvP te σ H R := fun H1 e Q q => h H1 e Q fun u H2 e2 hu => q u H2 e2 (by
  obtain rfl : u = _ := hu
  exact m _ _ _ (e.trans e2) hR)
theorem none_upd {H : Hp} {a p : Addr} {o : HO} (h : upd H a o p = none) : H p = none := by
  by_cases pa : p = a
  · rw [pa, upd_same] at h; cases h
  · rw [upd_ne pa] at h; exact h
theorem ne_upd {H : Hp} {a p : Addr} {o : HO} (h : upd H a o p = none) : p ≠ a := fun z => by
  rw [z, upd_same] at h
  cases h
/-- [e for n in ns], each a fraction -/
theorem ep_lcL {i : Nat} {ns : List Int} {g : Int → Frac} (ha : EvP ta σ H (IL ns)) (hn : ns.length ≤ 1000) (hw : ∀ v : V, wipe ((wipe σ [i]).set i (some v)) [i] = wipe σ [i])
    (he : ∀ (n : Int) H1, n ∈ ns → Ex H H1 → EvP te ((wipe σ [i]).set i (some (.int n))) H1 (Fr K (g n))) :
    EvP (tLc (iList K ta) (gName i) tYes te [i]) σ H (FrN K (ns.map g) H) := fun H1 e Q q => by
  refine ha H1 e _ fun v H2 e2 hv => ?_
  obtain ⟨a, rfl, hl⟩ := hv
  refine ⟨a, rfl, ⟨_, sq_of hl⟩, fun D hD => ?_⟩
  have nd : a ≠ D := fun z => by
    rw [← z, hl] at hD
    cases hD
  refine lc_list (K := K) (a := a) (xs := ns.map V.int) (fun k H' => ∃ us, Ex H2 H' ∧ H' D = some (.lst us) ∧ Fs K H' us ((ns.take k).map g)) ⟨[], Ex.new hD, upd_same, trivial⟩ (fun k H' _ ⟨us, e3, _⟩ => sq_of (e3 _ _ hl)) (fun k y H' hy ⟨us, e3, hd, fs⟩ => ?_) fun H' ⟨us, e3, hd, fs⟩ => ?_
  · rw [List.getElem?_map] at hy
    cases hk : ns[k]? with
    | none => rw [hk] at hy; cases hy
    | some n =>
      rw [hk] at hy
      obtain rfl := Option.some.inj hy
      have hlt : k < ns.length := (List.getElem?_eq_some_iff.mp hk).1
      refine ⟨hw _, ?_⟩
      simp only [tYes, if_true]
      refine he n H' (List.mem_of_getElem? hk) ((e.trans e2).trans e3) H' (Ex.refl _) _ fun y H4 e4 hy => ⟨us, e4 _ _ hd, sz_lt (by rw [fs.len, List.length_map, List.length_take]; omega), us ++ [y], ?_, upd_same, ?_⟩
      · exact Ex.mut (e3.trans e4) hD
      · have et : ns.take (k + 1) = ns.take k ++ [n] := by
          rw [List.take_succ, hk]
          rfl
        rw [et, List.map_append]
        exact (fs_upd (e4 _ _ hd) (fs.mono e4)).app (Fs.one (fr_upd (e4 _ _ hd) hy))
  · rw [List.length_map, List.take_length] at fs
    exact q _ _ (e2.trans e3) ⟨D, us, rfl, none_back (e.trans e2) hD, hd, fs⟩
/-! ### fields -/
theorem ep_fld {a : Addr} {C dx : Addr} {fs : List (Str × V)} {f : Str} (ha : EvP ta σ H (Is (.ref a))) (ho : H a = some (.ins C dx fs)) (hc : Cls K C) (hn : NoAttr K C f) (hl : fs.lookup f = some v) : EvP (tFld K ta f) σ H (Is v) := fun H1 e Q q =>
  ha H1 e _ fun x H2 e2 hx => ⟨a, C, dx, fs, v, hx, (e.trans e2) _ _ ho, hc, hn, hl, q v H2 e2 rfl⟩
theorem sp_fld {a : Addr} {C dx : Addr} {fs : List (Str × V)} {f : Str} (hv : EvP te σ H R) (ha : EvP ta σ H (Is (.ref a))) (ho : H a = some (.ins C dx fs)) (hc : Cls K C) (hn : NoAttr K C f) (hl : fs.length < 1000)
    (k : ∀ y H1, Ex H H1 → R y H1 → Mo R → D.nx σ (upd H1 a (.ins C dx (putF f y fs)))) (m : Mo R) : sFld K ta te f D σ H := by
  refine hv.run fun y H1 e1 hy => ?_
  refine (ha.mono e1).run fun x H2 e2 hx => ?_
  exact ⟨a, C, dx, fs, hx, e2 _ _ (e1 _ _ ho), hc, hn, hl, k y H2 (e1.trans e2) (m _ _ _ e2 hy) m⟩
/-- an instance's change leaves fractions and lists -/
theorem fr_updI {x : Frac} {a : Addr} {C dx : Addr} {fs : List (Str × V)} {o : HO} (hl : H a = some (.ins C dx fs)) (h : Fr K x v H) : Fr K x v (upd H a o) := by
  obtain ⟨b, rfl, q⟩ := h
  refine ⟨b, rfl, ?_⟩
  have ne : Rd H b (.tup [.int x.n, .int (x.d : Int)]) → b ≠ a := fun r z => by
    subst z
    rcases r with r | ⟨o, r⟩
    · rw [hl] at r; cases r
    · rw [hl] at r; cases r
  rcases q with r | r
  · have n := ne r
    rcases r with r | ⟨o, r⟩
    · exact .inl (.inl (by rw [upd_ne n]; exact r))
    · exact .inl (.inr ⟨o, by rw [upd_ne n]; exact r⟩)
  · exact .inr r
theorem fs_updI {a : Addr} {C dx : Addr} {fs : List (Str × V)} {o : HO} (hl : H a = some (.ins C dx fs)) : ∀ {vs : List V} {xs : List Frac}, Fs K H vs xs → Fs K (upd H a o) vs xs
  | [], [], _ => trivial
  | _ :: _, _ :: _, ⟨h, r⟩ => ⟨fr_updI hl h, fs_updI hl r⟩
  | [], _ :: _, h => h.elim
  | _ :: _, [], h => h.elim
end
/-! ### the object -/
def kOf : Sr73.State → Nat
  | none => 0
  | some s => s.k
def mOf : Sr73.State → List Frac
  | none => []
  | some s => s.m
def sF (k : Nat) (l : Addr) : List (Str × V) := [("k", .int (k : Int)), ("means", .ref l)]
theorem lk_here {k : Str} {v : V} {r : List (Str × V)} : List.lookup k ((k, v) :: r) = some v := by
  have e : (k == k) = true := beq_self_eq_true k
  simp only [List.lookup, e]
theorem lk_past {k g : Str} {v : V} {r : List (Str × V)} (h : (k == g) = false) : List.lookup k ((g, v) :: r) = List.lookup k r := by
  simp only [List.lookup, h]
theorem put_here {f : Str} {v x : V} {r : List (Str × V)} : putF f v ((f, x) :: r) = (f, v) :: r := if_pos rfl
theorem put_past {f g : Str} {v x : V} {r : List (Str × V)} (h : ¬ g = f) : putF f v ((g, x) :: r) = (g, x) :: putF f v r := if_neg h
theorem sF_k (k : Nat) (l : Addr) : (sF k l).lookup ("k" : Str) = some (.int (k : Int)) := lk_here
theorem sF_means (k : Nat) (l : Addr) : (sF k l).lookup ("means" : Str) = some (.ref l) := (lk_past (by decide +kernel)).trans lk_here
theorem sF_putK (k k' : Nat) (l : Addr) : putF "k" (.int (k' : Int)) (sF k l) = sF k' l := put_here
theorem sF_putM (k : Nat) (l l' : Addr) : putF "means" (.ref l') (sF k l) = sF k l' := (put_past (by decide +kernel)).trans (congrArg _ put_here)
section
variable {P : Program} {w : World} {K : PySem.W.Frag} {mg : Str → Option Value} {base : Heap}
/-- the object at a, its means at l -/
structure SpAt (T : Txt K mg) (H : Hp) (a l : Addr) (st : Sr73.State) : Prop where
  obj : ∃ dx, H a = some (.ins T.Spread.C dx (sF (kOf st) l))
  lst : ∃ us, H l = some (.lst us) ∧ Fs K H us (mOf st)
theorem SpAt.mono {T : Txt K mg} {H H' : Hp} {a l : Addr} {st : Sr73.State} (e : Ex H H') (h : SpAt T H a l st) : SpAt T H' a l st := by
  obtain ⟨⟨dx, h1⟩, us, h2, h3⟩ := h
  exact ⟨⟨dx, e _ _ h1⟩, us, e _ _ h2, h3.mono e⟩
theorem SpAt.ne {T : Txt K mg} {H : Hp} {a l : Addr} {st : Sr73.State} (h : SpAt T H a l st) : a ≠ l := by
  obtain ⟨⟨dx, h1⟩, us, h2, h3⟩ := h
  intro z
  subst z
  rw [h1] at h2
  cases h2
/-- all else stands -/
def Else (a l : Addr) (H H' : Hp) : Prop := ∀ b o, H b = some o → b ≠ a → b ≠ l → H' b = some o
theorem Else.of {a l : Addr} {H H' : Hp} (e : Ex H H') : Else a l H H' := fun b o h _ _ => e b o h
/-- what a call's answer is, number by number -/
def told (y : Sr66.Ans) : List Int := y.num :: y.nums
/-- the promise of a call's def -/
def spC (T : Txt K mg) (ok : Sr73.State → List Int → List Int → Sr73.Call → Prop) : Sp := fun vs H Q _ => ∃ (a l ln lr : Addr) (ns row : List Int) (st : Sr73.State) (c : Sr73.Call), vs = [.ref a, .ref ln, .ref lr] ∧ SpAt T H a l st ∧
  H ln = some (.lst (ns.map V.int)) ∧ H lr = some (.lst (row.map V.int)) ∧ GoodS st ∧ ok st ns row c ∧
  ∀ (p : Addr) (H' : Hp) (l' : Addr), H p = none → H' p = some (.lst ((told (Sr73.step st c).2).map V.int)) → Else a l H H' → SpAt T H' a l' (Sr73.step st c).1 → (l' = l ∨ H l' = none) → Q (.ref p) H'
/-- of a call that only tells -/
theorem told_end {T : Txt K mg} {H H' : Hp} {a l : Addr} {s : Sr73.Means} {c : Sr73.Call} {Q : VK} {v : V} {ns : List Int}
    (q : ∀ (p : Addr) (H' : Hp) (l' : Addr), H p = none → H' p = some (.lst ((told (Sr73.step (some s) c).2).map V.int)) → Else a l H H' → SpAt T H' a l' (Sr73.step (some s) c).1 → (l' = l ∨ H l' = none) → Q (.ref p) H')
    (h : SpAt T H a l (some s)) (e : Ex H H') (hv : IN ns H v H') (e1 : (Sr73.step (some s) c).1 = some s) (e2 : told (Sr73.step (some s) c).2 = ns) : Q v H' := by
  obtain ⟨p, rfl, np, hp⟩ := hv
  exact q p H' l np (by rw [e2]; exact hp) (Else.of e) (by rw [e1]; exact h.mono e) (.inl rfl)
theorem ok_spC {x : Str} {st : Stmt} {N : List Str} {k : Nat} {T : Txt K mg} {ok : Sr73.State → List Int → List Int → Sr73.Call → Prop}
    (D : Df K mg x st ["spread", "numbers", "row"]) (S : FnScope N ["spread", "numbers", "row"] (defScope st))
    (body : ∀ (cdv : Value) (Ar : Around) (outer : List Env) (s : Shared) (H : Hp) (Q : VK) (E : XK) (a l ln lr : Addr) (ns row : List Int) (z : Sr73.State) (c : Sr73.Call), Room k (Ar.deeper (envOfC x (defScope st) s.heap.objs.size D.f cdv)) → SpAt T H a l z →
      H ln = some (.lst (ns.map V.int)) → H lr = some (.lst (row.map V.int)) → GoodS z → ok z ns row c →
      (∀ (p : Addr) (H' : Hp) (l' : Addr), H p = none → H' p = some (.lst ((told (Sr73.step z c).2).map V.int)) → Else a l H H' → SpAt T H' a l' (Sr73.step z c).1 → (l' = l ∨ H l' = none) → Q (.ref p) H') →
      ∃ t, PSs (cxOf CX0 P w K mg base N x (defScope st) D.f cdv Ar outer s H E).nox (defBody st) t ∧ t { nx := fun _ H' => Q .non H', rt := Q } (start N [.ref a, .ref ln, .ref lr]) H) :
    FnOk P w K mg base CX0 (k + 1) D.f D.fd ["spread", "numbers", "row"] (spC T ok) := by
  refine D.F.ok S (fun vs H Q E h => ?_) (fun cdv Ar outer s H vs Q E hr h => ?_)
  · obtain ⟨a, l, ln, lr, ns, row, z, c, rfl, _⟩ := h
    rfl
  · obtain ⟨a, l, ln, lr, ns, row, z, c, rfl, h1, h2, h3, h4, h5, h6⟩ := h
    exact body cdv Ar outer s H Q E a l ln lr ns row z c hr h1 h2 h3 h4 h5 h6
end
end Sm


/-! # What may be reckoned, from sizes -/
namespace Sm
open PySem PySem.Spec PyProof.Rows L2 Evl
open Sr58 (Frac frac plus times whole)
open Sr66 (minus over zero neg)
theorem mwpOk_of {f m : List Frac} {p a b : Nat} (hf : NfL f) (hm : NfL m) (sf : SzL a f) (sm : SzL b m) (hi : f.length + p ≤ m.length) (hl : f.length ≤ 1000) (hb : 1 + f.length * (a + b + 1) ≤ 67108000) : MwpOk f p m where
  idx := hi
  lf := by omega
  ff := fun i h => fi_of (nf_getD hf i) (sf i) (by
    have := Nat.le_mul_of_pos_left (a + b + 1) (show 0 < f.length by omega)
    omega)
  fm := fun i h => fi_of (nf_getD hm _) (sm _) (by
    have := Nat.le_mul_of_pos_left (a + b + 1) (show 0 < f.length by omega)
    omega)
  ft := fun i h => fi_of (nf_times (nf_getD hf i) (nf_getD hm _)) (sz_times (nf_getD hf i) (nf_getD hm _) (sf i) (sm _)) (by
    have := Nat.le_mul_of_pos_left (a + b + 1) (show 0 < f.length by omega)
    omega)
  fs := fun i h => by
    obtain ⟨h1, h2, _⟩ := mwpTo_ok hf hm sf sm p i
    refine fi_of h1 h2 ?_
    have := Nat.mul_le_mul_right (a + b + 1) (show i ≤ f.length by omega)
    omega
theorem mprOk_of {f o m : List Frac} {a b c : Nat} (hf : NfL f) (ho : NfL o) (hm : NfL m) (sf : SzL a f) (so : SzL c o) (sm : SzL b m) (hi : f.length + o.length ≤ m.length + 1) (hl : f.length ≤ 1000) (hl' : o.length ≤ 1000) (hb : 1 + f.length * (a + (1 + o.length * (c + b + 1)) + 1) ≤ 67108000) : MprOk f o m := by
  have big : ∀ i, i < f.length → a + (1 + o.length * (c + b + 1)) + 1 ≤ 67108000 := fun i h => by
    have := Nat.le_mul_of_pos_left (a + (1 + o.length * (c + b + 1)) + 1) (show 0 < f.length by omega)
    omega
  exact {
    lf := by omega
    mw := fun i h => mwpOk_of ho hm so sm (by omega) hl' (by have := big i h; omega)
    fw := fun i h => fi_of (nf_mwp ho hm i) (sz_mwp ho hm so sm i) (by have := big i h; omega)
    ff := fun i h => fi_of (nf_getD hf i) (sf i) (by have := big i h; omega)
    ft := fun i h => fi_of (nf_times (nf_getD hf i) (nf_mwp ho hm i)) (sz_times (nf_getD hf i) (nf_mwp ho hm i) (sf i) (sz_mwp ho hm so sm i)) (by have := big i h; omega)
    fs := fun i h => fi_of (val_mprTo hf ho hm i).2 (sz_mprTo hf ho hm sf so sm i) (by
      have := Nat.mul_le_mul_right (a + (1 + o.length * (c + b + 1)) + 1) (show i ≤ f.length by omega)
      omega) }
theorem msqOk_of {f m : List Frac} {a b : Nat} (hf : NfL f) (hm : NfL m) (sf : SzL a f) (sm : SzL b m) (hi : 2 * f.length ≤ m.length + 1) (hl : f.length ≤ 1000) (hb : 1 + f.length * (a + (1 + f.length * (a + b + 1)) + 1) ≤ 67108000) : MsqOk f m := mprOk_of hf hf hm sf sf sm (by omega) hl hl hb
theorem vaOk_of {p : List Frac} {x : Frac} {a b : Nat} (hp : NfL p) (hx : Nf x) (sp : SzL a p) (sx : Sz b x) (hb : 1 + p.length * (a + b + 1) + b ≤ 67108000) : VaOk p x where
  fx := fi_of hx sx (by omega)
  fp := fun i h => fi_of (nf_getD hp i) (sp i) (by
    have := Nat.le_mul_of_pos_left (a + b + 1) (show 0 < p.length by omega)
    omega)
  fv := fun k _ => fi_of (vaTo_fine hp hx sp sx k).1 (vaTo_fine hp hx sp sx k).2 (by omega)
  ft := fun k _ => fi_of (nf_times (vaTo_fine hp hx sp sx k).1 hx) (sz_times (vaTo_fine hp hx sp sx k).1 hx (vaTo_fine hp hx sp sx k).2 sx) hb
theorem tppOk_of {f : List Frac} {s : Frac} {a b : Nat} (ha : 1 ≤ a) (hf : NfL f) (hs : Nf s) (sf : SzL a f) (ss : Sz b s) (hl : f.length < 1000) (hb : a + b ≤ 67108000) : TppOk f s where
  lf := hl
  fs := fi_of hs ss (by omega)
  ff := fun i _ => fi_of (nf_getD hf i) (sf i) (by omega)
  ft := fun i _ => fi_of (nf_times (nf_getD hf i) hs) (sz_times (nf_getD hf i) hs (sf i) ss) (by omega)
  fp := fun i h => by
    rw [tppTo_at (by omega), if_neg (Nat.lt_irrefl i)]
    exact fi_of (nf_getD (nf_cons0 hf) i) (szl_cons0 ha sf i) (by omega)
theorem loOk_of {f o : List Frac} {c : Frac} {a b d : Nat} (hf : NfL f) (ho : NfL o) (hc : Nf c) (sf : SzL a f) (so : SzL b o) (sc : Sz d c) (hl : f.length < 1000) (hle : o.length ≤ f.length) (h1 : a ≤ 67108000) (h2 : b + d ≤ 67108000) : LoOk f o c where
  lf := hl
  le := hle
  fc := fi_of hc sc (by omega)
  ff := fun i _ => fi_of (nf_getD ho i) (so i) (by omega)
  ft := fun i _ => fi_of (nf_times (nf_getD ho i) hc) (sz_times (nf_getD ho i) hc (so i) sc) h2
  fp := fun i h => by
    rw [loTo_at (by omega), if_neg (Nat.lt_irrefl i)]
    exact fi_of (nf_getD hf i) (sf i) h1
def rz : Nat → Nat
  | 0 => 1
  | i + 1 => rz i + (rz i + 10) + 1
theorem rz_pos : ∀ i, 1 ≤ rz i
  | 0 => Nat.le_refl _
  | i + 1 => by show 1 ≤ rz i + (rz i + 10) + 1; omega
theorem rz_le : ∀ i, i ≤ 8 → rz i ≤ 4000 := by
  intro i h
  have : rz i ≤ rz 8 := by
    have mono : ∀ n, rz i ≤ rz (i + n) := fun n => by
      induction n with
      | zero => exact Nat.le_refl _
      | succ n ih => exact Nat.le_trans ih (by show rz (i + n) ≤ rz (i + n) + (rz (i + n) + 10) + 1; omega)
    have := mono (8 - i)
    rwa [show i + (8 - i) = 8 by omega] at this
  exact Nat.le_trans this (by decide)
theorem raised_sz {s : Frac} (hs : Nf s) (ss : Sz 10 s) : ∀ i, SzL (rz i) (raised s i)
  | 0 => szl_of (Nat.le_refl _) fun x hx => by
    rw [List.mem_singleton.mp hx]
    exact sz_one
  | i + 1 => szl_tpp (rz_pos i) (raised_ok hs i).1 hs (raised_sz hs ss i) ss
theorem mv_ok {s : Sr73.Means} (hg : Good s) {x : Frac} (hx : Nf x) (sx : Sz 10 x) : MvOk s.m x where
  lm := by have := hg.len; have := hg.k4; omega
  tp := fun i hi => by
    have h8 : i ≤ 8 := by have := hg.len; have := hg.k4; omega
    have := rz_le i h8
    exact tppOk_of (rz_pos i) (raised_ok hx i).1 hx (raised_sz hx sx i) sx (by rw [(raised_ok hx i).2.1]; omega) (by omega)
  mw := fun i hi => by
    have h8 : i ≤ 8 := by have := hg.len; have := hg.k4; omega
    have h4 := rz_le i h8
    have hl := (raised_ok hx i).2.1
    refine mwpOk_of (raised_ok hx i).1 hg.nf (raised_sz hx sx i) hg.sz (by omega) (by omega) ?_
    have h9 : (raised x i).length ≤ 9 := by omega
    have := Nat.mul_le_mul h9 (show rz i + 200 + 1 ≤ 4201 by omega)
    omega
end Sm

/-! # What the calls' defs call -/
namespace Sm
open PySem PySem.Spec PyProof.Rows L2 Evl
open Sr58 (Frac frac plus times whole)
open Sr66 (minus over zero neg)
/-- a promise of a def that gives a new list of ints -/
def spI {α : Type} (Pre : α → Prop) (A : α → PA') (g : α → List Int) : Sp := fun vs H Q _ => ∃ a, Pre a ∧ A a vs H ∧ ∀ v H', Ex H H' → IN (g a) H v H' → Q v H'
section
variable {K : PySem.W.Frag} {σ : L2.St} {H H' : Hp} {v x y : V} {R R' : PV} {te ta tb tc : TE} {D : Ends}
theorem in_back {ns : List Int} {H0 H1 : Hp} (e : Ex H0 H1) (h : IN ns H1 v H) : IN ns H0 v H := by
  obtain ⟨a, h, n, q⟩ := h
  exact ⟨a, h, none_back e n, q⟩
theorem ep_callI {α : Type} {Pre : α → Prop} {A : α → PA'} {g : α → List Int} {t : TA} (a : α) (hp : Pre a) (h : EvAP t σ H (A a)) : EvP (tCall (spI Pre A g) [] E0 t) σ H (IN (g a) H) := fun H1 e Q q =>
  h H1 e _ fun vs H2 e2 av => ⟨a, hp, by rw [List.append_nil]; exact av, fun v H3 e3 rv => q v H3 (e2.trans e3) (in_back (e.trans e2) rv)⟩
/-- a list of bools -/
def BLs (bs : List Bool) : PV := fun v H => ∃ a, v = .ref a ∧ H a = some (.lst (bs.map V.bl))
theorem ep_all {bs : List Bool} (ha : EvP ta σ H (BLs bs)) : EvP (tCB (rAll K) (tCons ta tNil)) σ H (Is (.bl (bs.all id))) := fun H1 e Q q =>
  ha H1 e _ fun v H2 e2 ⟨a, ea, sq⟩ => ⟨a, bs, by rw [ea], sq_of sq, q _ H2 e2 rfl⟩
/-- [e for n in ns], each a bool -/
theorem ep_lcB {i : Nat} {ns : List Int} {g : Int → Bool} (ha : EvP ta σ H (IL ns)) (hn : ns.length ≤ 1000) (hw : ∀ v : V, wipe ((wipe σ [i]).set i (some v)) [i] = wipe σ [i])
    (he : ∀ (n : Int) H1, n ∈ ns → Ex H H1 → EvP te ((wipe σ [i]).set i (some (.int n))) H1 (Is (.bl (g n)))) :
    EvP (tLc (iList K ta) (gName i) tYes te [i]) σ H (BLs (ns.map g)) := fun H1 e Q q => by
  refine ha H1 e _ fun v H2 e2 hv => ?_
  obtain ⟨a, rfl, hl⟩ := hv
  refine ⟨a, rfl, ⟨_, sq_of hl⟩, fun D hD => ?_⟩
  have nd : a ≠ D := fun z => by
    rw [← z, hl] at hD
    cases hD
  refine lc_list (K := K) (a := a) (xs := ns.map V.int) (fun k H' => Ex H2 H' ∧ H' D = some (.lst (((ns.take k).map g).map V.bl))) ⟨Ex.new hD, upd_same⟩ (fun k H' _ ⟨e3, _⟩ => sq_of (e3 _ _ hl)) (fun k y H' hy ⟨e3, hd⟩ => ?_) fun H' ⟨e3, hd⟩ => ?_
  · rw [List.getElem?_map] at hy
    cases hk : ns[k]? with
    | none => rw [hk] at hy; cases hy
    | some n =>
      rw [hk] at hy
      obtain rfl := Option.some.inj hy
      have hlt : k < ns.length := (List.getElem?_eq_some_iff.mp hk).1
      refine ⟨hw _, ?_⟩
      simp only [tYes, if_true]
      refine he n H' (List.mem_of_getElem? hk) ((e.trans e2).trans e3) H' (Ex.refl _) _ fun y H4 e4 hy => ⟨_, e4 _ _ hd, sz_lt (by rw [List.length_map, List.length_map, List.length_take]; omega), ?_, ?_⟩
      · exact Ex.mut (e3.trans e4) hD
      · obtain rfl : y = _ := hy
        rw [upd_same, List.take_succ, hk, List.map_append, List.map_append]
        rfl
  · rw [List.length_map, List.take_length] at hd
    exact q _ _ (e2.trans e3) ⟨D, rfl, hd⟩
end
/-! ### calls, by what they give -/
section
variable {K : PySem.W.Frag} {σ : L2.St} {H : Hp} {ta tb tc : TE} {x y : Frac} {f o m : List Frac} {p : Nat}
theorem ec_plus (ha : EvP ta σ H (Fr K x)) (hb : EvP tb σ H (Fr K y)) (hx : Fi x) (hy : Fi y) : EvP (tCall (sp_plus K) [] E0 (tCons ta (tCons tb tNil))) σ H (Fr K (plus x y)) :=
  ep_call (R := fun a : Frac × Frac => Fr K (plus a.1 a.2)) (A := A2 K) (x, y) ⟨hx, hy⟩ (ea_c ha mo_fr (ea_c hb mo_fr ea_n))
theorem ec_less (ha : EvP ta σ H (Fr K x)) (hb : EvP tb σ H (Fr K y)) (hx : Fi x) (hy : Fi y) : EvP (tCall (sp_less K) [] E0 (tCons ta (tCons tb tNil))) σ H (Fr K (minus x y)) :=
  ep_call (R := fun a : Frac × Frac => Fr K (minus a.1 a.2)) (A := A2 K) (x, y) ⟨hx, hy⟩ (ea_c ha mo_fr (ea_c hb mo_fr ea_n))
theorem ec_times (ha : EvP ta σ H (Fr K x)) (hb : EvP tb σ H (Fr K y)) (hx : Fi x) (hy : Fi y) : EvP (tCall (sp_times K) [] E0 (tCons ta (tCons tb tNil))) σ H (Fr K (times x y)) :=
  ep_call (R := fun a : Frac × Frac => Fr K (times a.1 a.2)) (A := A2 K) (x, y) ⟨hx, hy⟩ (ea_c ha mo_fr (ea_c hb mo_fr ea_n))
theorem ec_div (ha : EvP ta σ H (Fr K x)) (hb : EvP tb σ H (Fr K y)) (hx : Fi x) (hy : Fi y) (h0 : y.n ≠ 0) : EvP (tCall (sp_divided K) [] E0 (tCons ta (tCons tb tNil))) σ H (Fr K (over x y)) :=
  ep_call (R := fun a : Frac × Frac => Fr K (over a.1 a.2)) (A := A2 K) (x, y) ⟨hx, hy, h0⟩ (ea_c ha mo_fr (ea_c hb mo_fr ea_n))
theorem ec_isless (ha : EvP ta σ H (Fr K x)) (hb : EvP tb σ H (Fr K y)) (hx : Fi x) (hy : Fi y) : EvP (tCall (sp_is_less K) [] E0 (tCons ta (tCons tb tNil))) σ H (Is (.bl (Sr58.less x y))) :=
  ep_call (R := fun a : Frac × Frac => Is (.bl (Sr58.less a.1 a.2))) (A := A2 K) (x, y) ⟨hx, hy⟩ (ea_c ha mo_fr (ea_c hb mo_fr ea_n))
theorem ec_frac {n : Int} {d : Nat} (ha : EvP ta σ H (Is (.int n))) (hb : EvP tb σ H (Is (.int (d : Int)))) (hd : 0 < d) : EvP (tCall (sp_fraction K) [] E0 (tCons ta (tCons tb tNil))) σ H (Fr K (frac n d)) := by
  rw [← fracI_nat]
  exact ep_call (R := fun a : Int × Int => Fr K (fracI a.1 a.2)) (A := fun a : Int × Int => AC (Is (.int a.1)) (AC (Is (.int a.2)) A0)) (n, (d : Int)) (show (d : Int) ≠ 0 by omega) (ea_c ha (mo_is _) (ea_c hb (mo_is _) ea_n))
theorem ec_mwp (ha : EvP ta σ H (FrL K f)) (hb : EvP tb σ H (Is (.int (p : Int)))) (hc : EvP tc σ H (FrL K m)) (h : MwpOk f p m) : EvP (tCall (sp_mean_with_power K) [] E0 (tCons ta (tCons tb (tCons tc tNil)))) σ H (Fr K (mwp f p m)) :=
  ep_call (R := fun a : List Frac × Nat × List Frac => Fr K (mwp a.1 a.2.1 a.2.2)) (A := fun a : List Frac × Nat × List Frac => AC (FrL K a.1) (AC (Is (.int (a.2.1 : Int))) (AC (FrL K a.2.2) A0))) (f, p, m) h (ea_c ha mo_frl (ea_c hb (mo_is _) (ea_c hc mo_frl ea_n)))
theorem ec_mean (ha : EvP ta σ H (FrL K f)) (hc : EvP tc σ H (FrL K m)) (h : MwpOk f 0 m) : EvP (tCall (sp_mean_of K) [] E0 (tCons ta (tCons tc tNil))) σ H (Fr K (mwp f 0 m)) :=
  ep_call (R := fun a : List Frac × List Frac => Fr K (mwp a.1 0 a.2)) (A := fun a : List Frac × List Frac => AC (FrL K a.1) (AC (FrL K a.2) A0)) (f, m) h (ea_c ha mo_frl (ea_c hc mo_frl ea_n))
theorem ec_msq (ha : EvP ta σ H (FrL K f)) (hc : EvP tc σ H (FrL K m)) (h : MsqOk f m) : EvP (tCall (sp_mean_of_square K) [] E0 (tCons ta (tCons tc tNil))) σ H (Fr K (msq f m)) :=
  ep_call (R := fun a : List Frac × List Frac => Fr K (msq a.1 a.2)) (A := fun a : List Frac × List Frac => AC (FrL K a.1) (AC (FrL K a.2) A0)) (f, m) h (ea_c ha mo_frl (ea_c hc mo_frl ea_n))
theorem ec_mpr (ha : EvP ta σ H (FrL K f)) (hb : EvP tb σ H (FrL K o)) (hc : EvP tc σ H (FrL K m)) (h : MprOk f o m) : EvP (tCall (sp_mean_of_product K) [] E0 (tCons ta (tCons tb (tCons tc tNil)))) σ H (Fr K (mpr f o m)) :=
  ep_call (R := fun a : List Frac × List Frac × List Frac => Fr K (mpr a.1 a.2.1 a.2.2)) (A := fun a : List Frac × List Frac × List Frac => AC (FrL K a.1) (AC (FrL K a.2.1) (AC (FrL K a.2.2) A0))) (f, o, m) h (ea_c ha mo_frl (ea_c hb mo_frl (ea_c hc mo_frl ea_n)))
theorem ec_value (ha : EvP ta σ H (FrL K f)) (hb : EvP tb σ H (Fr K x)) (h : VaOk f x) : EvP (tCall (sp_value_at K) [] E0 (tCons ta (tCons tb tNil))) σ H (Fr K (Sr71.valueAt f x)) :=
  ep_call (R := fun a : List Frac × Frac => Fr K (Sr71.valueAt a.1 a.2)) (A := fun a : List Frac × Frac => AC (FrL K a.1) (AC (Fr K a.2) A0)) (f, x) h (ea_c ha mo_frl (ea_c hb mo_fr ea_n))
theorem ec_pow (ha : EvP ta σ H (Is (.int (p : Int)))) (h : p ≤ 1000) : EvP (tCall (sp_power_alone K) [] E0 (tCons ta tNil)) σ H (FrN K (Sr73.pow p) H) :=
  ep_callN (g := fun a : Nat => Sr73.pow a) (A := fun a : Nat => AC (Is (.int (a : Int))) A0) p h (ea_c ha (mo_is _) ea_n)
theorem ec_lo (ha : EvP ta σ H (FrL K f)) (hb : EvP tb σ H (FrL K o)) (hc : EvP tc σ H (Fr K x)) (h : LoOk f o x) : EvP (tCall (sp_less_often K) [] E0 (tCons ta (tCons tb (tCons tc tNil)))) σ H (FrN K (lo f o x) H) :=
  ep_callN (g := fun a : List Frac × List Frac × Frac => lo a.1 a.2.1 a.2.2) (A := fun a : List Frac × List Frac × Frac => AC (FrL K a.1) (AC (FrL K a.2.1) (AC (Fr K a.2.2) A0))) (f, o, x) h (ea_c ha mo_frl (ea_c hb mo_frl (ea_c hc mo_fr ea_n)))
end
theorem fr_len (m : List Frac) : (m.flatMap Sr66.fr).length = 2 * m.length := by
  induction m with
  | nil => rfl
  | cons x r ih =>
    rw [List.flatMap_cons, List.length_append, ih]
    show 2 + _ = _
    rw [List.length_cons]
    omega
theorem frac_one (n : Int) : frac n 1 = whole n := by
  rw [frac_eq (by decide)]
  simp [whole]
theorem nf_wholes (l : List Int) : NfL (l.map whole) := fun x hx => by
  obtain ⟨n, _, rfl⟩ := List.mem_map.mp hx
  exact nf_whole n
theorem sz_wholes {l : List Int} (h : ∀ x ∈ l, -999 ≤ x ∧ x ≤ 999) : SzL 10 (l.map whole) := szl_of (by decide) fun x hx => by
  obtain ⟨n, hn, rfl⟩ := List.mem_map.mp hx
  have := h n hn
  exact ⟨by show n.natAbs < 2 ^ 10; omega, by show 1 < 2 ^ 10; decide⟩
section
variable {P : Program} {w : World} {K : PySem.W.Frag} {mg : Str → Option Value} {base : Heap}
theorem ok_spI {x : Str} {st : Stmt} {ps N : List Str} {k : Nat} {α : Type} {Pre : α → Prop} {A : α → PA'} {g : α → List Int}
    (D : Df K mg x st ps) (S : FnScope N ps (defScope st)) (len : ∀ a vs H, A a vs H → vs.length = ps.length)
    (body : ∀ (cdv : Value) (Ar : Around) (outer : List Env) (s : Shared) (H : Hp) (Q : VK) (E : XK) (a : α) (vs : List V), Room k (Ar.deeper (envOfC x (defScope st) s.heap.objs.size D.f cdv)) → Pre a → A a vs H →
      (∀ v H', Ex H H' → IN (g a) H v H' → Q v H') → ∃ t, PSs (cxOf CX0 P w K mg base N x (defScope st) D.f cdv Ar outer s H E).nox (defBody st) t ∧ t { nx := fun _ H' => Q .non H', rt := Q } (start N vs) H) :
    FnOk P w K mg base CX0 (k + 1) D.f D.fd ps (spI Pre A g) := by
  refine D.F.ok S (fun vs H Q E h => ?_) (fun cdv Ar outer s H vs Q E hr h => ?_)
  · obtain ⟨a, _, h, _⟩ := h
    exact len a vs H h
  · obtain ⟨a, h1, h2, h3⟩ := h
    exact body cdv Ar outer s H Q E a vs hr h1 h2 h3
def sp_is_small_fraction : Sp := spF (fun _ : Int × Int => True) (fun a => AC (Is (.int a.1)) (AC (Is (.int a.2)) A0)) (fun a => Is (.bl (Sr73.okF a.1 a.2)))
theorem ec_small {σ : L2.St} {H : Hp} {ta tb : TE} {n d : Int} (ha : EvP ta σ H (Is (.int n))) (hb : EvP tb σ H (Is (.int d))) : EvP (tCall sp_is_small_fraction [] E0 (tCons ta (tCons tb tNil))) σ H (Is (.bl (Sr73.okF n d))) :=
  ep_call (R := fun a : Int × Int => Is (.bl (Sr73.okF a.1 a.2))) (A := fun a : Int × Int => AC (Is (.int a.1)) (AC (Is (.int a.2)) A0)) (n, d) trivial (ea_c ha (mo_is _) (ea_c hb (mo_is _) ea_n))
theorem ok_is_small_fraction (T : Txt K mg) (B : Bs P base) : FnOk P w K mg base CX0 1 T.is_small_fraction.f T.is_small_fraction.fd ["upper", "lower"] sp_is_small_fraction := by
  refine ok_spF T.is_small_fraction sc_is_small_fraction (fun a vs H h => len2 h) fun cdv Ar outer s H Q E a vs hr hp ha q => ?_
  obtain ⟨_, _, rfl, rfl, _, _, rfl, rfl, rfl⟩ := ha
  obtain ⟨a, b⟩ := a
  refine ⟨_, (pss_one (ps_ret (pe_and (pe_chain op_le op_le (pe_un un_neg pe_int) (pv 0) pe_int) (pe_one (pe_chain op_le op_le pe_int (pv 1) pe_int))))), ?_⟩
  refine sp_ret (ep_and (ep_chain (g := fun i j => decide (i ≤ j)) (g' := fun i j => decide (i ≤ j)) (ep_neg ep_c) (ep_v rfl) ep_c) fun _ => ep_chain (g := fun i j => decide (i ≤ j)) (g' := fun i j => decide (i ≤ j)) ep_c (ep_v rfl) ep_c) fun v H1 e1 hv => q v H1 e1 ?_
  obtain rfl : v = _ := hv
  show V.bl _ = V.bl (Sr73.okF a b)
  unfold Sr73.okF
  rw [Bool.and_assoc]
/-- a polynomial that may be handed in -/
def okP (row : List Int) (n : Nat) : Bool := decide (row.length ≤ n) && row.all fun x => decide (-999 ≤ x) && decide (x ≤ 999)
theorem okP_true {row : List Int} {n : Nat} (h : okP row n = true) : row.length ≤ n ∧ ∀ x ∈ row, -999 ≤ x ∧ x ≤ 999 := by
  unfold okP at h
  rw [Bool.and_eq_true] at h
  refine ⟨of_decide_eq_true h.1, fun x hx => ?_⟩
  have := List.all_eq_true.mp h.2 x hx
  simpa using this
theorem okP_false {row : List Int} {n : Nat} (h : okP row n = false) : n < row.length ∨ row.any (fun x => decide (x < -999) || decide (999 < x)) = true := by
  by_cases c : row.length ≤ n
  · right
    unfold okP at h
    rw [decide_eq_true c, Bool.true_and, List.all_eq_false] at h
    obtain ⟨x, hx, h2⟩ := h
    refine List.any_eq_true.mpr ⟨x, hx, ?_⟩
    simp at h2 ⊢
    omega
  · left
    omega
theorem okP_not {row : List Int} {n : Nat} (h : okP row n = true) : ¬ (n < row.length ∨ row.any (fun x => decide (x < -999) || decide (999 < x)) = true) := by
  obtain ⟨h1, h2⟩ := okP_true h
  intro z
  rcases z with z | z
  · omega
  · obtain ⟨x, hx, h3⟩ := List.any_eq_true.mp z
    have := h2 x hx
    simp at h3
    omega
def sp_is_small_polynomial : Sp := spF (fun a : List Int × Nat => a.1.length ≤ 1000) (fun a => AC (IL a.1) (AC (Is (.int (a.2 : Int))) A0)) (fun a => Is (.bl (okP a.1 a.2)))
theorem ok_is_small_polynomial (T : Txt K mg) (B : Bs P base) : FnOk P w K mg base CX0 1 T.is_small_polynomial.f T.is_small_polynomial.fd ["row", "longest"] sp_is_small_polynomial := by
  refine ok_spF T.is_small_polynomial sc_is_small_polynomial (fun a vs H h => len2 h) fun cdv Ar outer s H Q E a vs hr hp ha q => ?_
  obtain ⟨row, n⟩ := a
  obtain ⟨vr, _, rfl, hv, _, _, rfl, rfl, rfl⟩ := ha
  have hp : row.length ≤ 1000 := hp
  refine ⟨_, (pss_one (ps_ret (pe_and (pe_cmpR op_le (pe_callB call_len_seq (by rfl) T.len (by decide +kernel) (pa_cons (pv 0) pa_nil)) (pv 1) (nomark _)) (pe_one (pe_callB (cr_all rfl) (by rfl) T.all (by decide +kernel) (pa_cons (pe_lc (own := [("factor", 2)]) (g := gName 2) (tt := tYes) (by rfl) sc_is_small_polynomial.nd  (pi_list (pv 0)) (blkOk_by (own := [("factor", 2)]) (N := ["row", "longest", "factor"]) (sc := defScope s_is_small_polynomial) (by decide +kernel)) (fun _ _ _ _ _ => pg_name (i := 2) sc_is_small_polynomial.nd rfl (Or.inl rfl)) (fun _ _ _ _ _ => pts_nil) (fun _ _ _ _ _ => (pe_chain op_le op_le (pe_un un_neg pe_int) (pv 2) pe_int))) pa_nil)))))), ?_⟩
  refine sp_ret (ep_and (ep_le (ep_lenI (K := K) (ep_var rfl hv mo_il)) (ep_v rfl)) fun _ => ep_all (K := K) (ep_lcB (K := K) (g := fun x => decide (-999 ≤ x) && decide (x ≤ 999)) (ep_var rfl hv mo_il) hp (fun v => rfl) fun x H1 _ e1 => ep_chain (g := fun i j => decide (i ≤ j)) (g' := fun i j => decide (i ≤ j)) (ep_neg ep_c) (ep_v rfl) ep_c)) fun v H1 e1 hv => q v H1 e1 ?_
  obtain rfl : v = _ := hv
  show V.bl _ = V.bl (okP row n)
  unfold okP
  rw [List.all_map]
  congr 2
  exact decide_eq_decide.mpr (by show ((row.length : Int) ≤ (n : Int)) ↔ row.length ≤ n; omega)
def sp_whole_factors (K : PySem.W.Frag) : Sp := spN K (fun a : List Int => a.length ≤ 1000) (fun a => AC (IL a) A0) (fun a => a.map whole)
theorem ec_whole {σ : L2.St} {H : Hp} {ta : TE} {row : List Int} (ha : EvP ta σ H (IL row)) (h : row.length ≤ 1000) : EvP (tCall (sp_whole_factors K) [] E0 (tCons ta tNil)) σ H (FrN K (row.map whole) H) :=
  ep_callN (g := fun a : List Int => a.map whole) (A := fun a : List Int => AC (IL a) A0) row h (ea_c ha mo_il ea_n)
theorem ok_whole_factors (T : Txt K mg) (B : Bs P base) : FnOk P w K mg base CX0 42 T.whole_factors.f T.whole_factors.fd ["row"] (sp_whole_factors K) := by
  refine ok_spN T.whole_factors sc_whole_factors (fun a vs H h => len1 h) fun cdv Ar outer s H Q E row vs hr hp ha q => ?_
  obtain ⟨vr, _, rfl, hv, rfl⟩ := ha
  have hp : row.length ≤ 1000 := hp
  refine ⟨_, (pss_one (ps_ret (pe_lc (own := [("factor", 1)]) (g := gName 1) (tt := tYes) (by rfl) sc_whole_factors.nd  (pi_list (pv 0)) (blkOk_by (own := [("factor", 1)]) (N := ["row", "factor"]) (sc := defScope s_whole_factors) (by decide +kernel)) (fun _ _ _ _ _ => pg_name (i := 1) sc_whole_factors.nd rfl (Or.inl rfl)) (fun _ _ _ _ _ => pts_nil) (fun _ _ _ _ _ => (pe_df T.fraction (ok_fraction T B) hr (pa_cons (pv 1) (pa_cons pe_int pa_nil))))))), ?_⟩
  refine sp_ret (ep_lcL (K := K) (g := whole) (ep_var rfl hv mo_il) hp (fun v => rfl) fun n H1 _ e1 => ?_) fun v H1 e1 hv => q v H1 e1 hv
  have hf : Fr K (fracI n 1) = Fr K (whole n) := by
    rw [show (1 : Int) = ((1 : Nat) : Int) from rfl, fracI_nat, frac_one]
  rw [← hf]
  exact ep_call (n, (1 : Int)) (show (1 : Int) ≠ 0 by decide) (ea_c (ep_v rfl) (mo_is _) (ea_c ep_c (mo_is _) ea_n))
def sp_with_fractions (K : PySem.W.Frag) : Sp := spI (fun a : Int × List Frac => a.2.length ≤ 1000) (fun a => AC (Is (.int a.1)) (AC (FrL K a.2) A0)) (fun a => a.1 :: a.2.flatMap Sr66.fr)
theorem ep_wf {σ : L2.St} {H : Hp} {ta tb : TE} {n : Int} {m : List Frac} (ha : EvP ta σ H (Is (.int n))) (hb : EvP tb σ H (FrL K m)) (hm : m.length ≤ 1000) : EvP (tCall (sp_with_fractions K) [] E0 (tCons ta (tCons tb tNil))) σ H (IN (n :: m.flatMap Sr66.fr) H) :=
  ep_callI (g := fun a : Int × List Frac => a.1 :: a.2.flatMap Sr66.fr) (n, m) hm (ea_c ha (mo_is _) (ea_c hb mo_frl ea_n))
theorem ok_with_fractions (T : Txt K mg) (B : Bs P base) : FnOk P w K mg base CX0 1 T.with_fractions.f T.with_fractions.fd ["first", "fractions"] (sp_with_fractions K) := by
  refine ok_spI T.with_fractions sc_with_fractions (fun a vs H h => len2 h) fun cdv Ar outer s H Q E a vs hr hp ha q => ?_
  obtain ⟨n, m⟩ := a
  obtain ⟨_, _, rfl, rfl, vm, _, rfl, hm, rfl⟩ := ha
  obtain ⟨l, us, rfl, g2, g3⟩ := hm
  have g3 : Fs K H us m := g3
  have hp : m.length ≤ 1000 := hp
  refine ⟨_, (pss_cons (ps_set (i := 2) sc_with_fractions.nd rfl (Or.inl rfl) (pe_lst (pa_cons (pv 0) pa_nil)))
      (pss_cons (ps_for PassesOwn.never (by rfl) (pi_list (pv 1)) (pg_name (i := 3) sc_with_fractions.nd rfl (Or.inl rfl)) (pss_one (ps_expr (pe_bm PySem.F.plainAttrs_list PySem.F.slot_list_extend PySem.F.type_list_extend mt_extT (pv 2) (pa_cons (pv 3) pa_nil)))))
      (pss_one (ps_ret (pv 2))))), ?_⟩
  refine sp_asg (ep_lstI (ea_i (ep_v rfl) ea_in) (by simp)) fun v H1 e1 hv => ?_
  obtain ⟨lt, rfl, nt, ht⟩ := hv
  refine sp_for_list (K := K) (a := l) (xs := us) (ep_v rfl) (fun k σ H' => ∃ vo, σ = [some (.int n), some (.ref l), some (.ref lt), vo] ∧ Ex H H' ∧
    H' lt = some (.lst ((n :: (m.take k).flatMap Sr66.fr).map V.int)) ∧ k ≤ m.length) ?_ ?_ ?_ ?_
  · intro H2 e2
    exact ⟨none, rfl, e1.trans e2, e2 _ _ ht, Nat.zero_le _⟩
  · rintro k σ H2 ⟨vo, rfl, e2, _⟩
    exact sq_of (e2 _ _ g2)
  · rintro k y σ H2 hy ⟨vo, rfl, e2, hk, hle⟩
    have hk' : k < m.length := by
      rw [← g3.len]
      exact (List.getElem?_eq_some_iff.mp hy).1
    obtain ⟨y', hy', fy⟩ := (g3.mono e2).at hk'
    rw [hy] at hy'
    obtain rfl := Option.some.inj hy'
    have hx : m[k]? = some (m.getD k zero) := by
      rw [List.getD_eq_getElem?_getD, List.getElem?_eq_getElem hk']
      rfl
    obtain ⟨b, rfl, sq⟩ := fy
    refine ⟨_, rfl, .inl ⟨rfl, _, sq_of hk⟩, _, rfl, lt, b, _, _, rfl, rfl, hk, sq, ?_, ?_⟩
    · refine sz_of ?_
      rw [List.length_map, List.length_cons, fr_len, List.length_take]
      show _ + 2 ≤ _
      omega
    · refine ⟨some (.ref b), rfl, Ex.mut e2 nt, ?_, hk'⟩
      rw [upd_same, List.take_succ, hx, List.flatMap_append]
      simp [Sr66.fr]
  · rintro σ H2 ⟨vo, rfl, e2, hk, hle⟩
    refine sp_ret (ep_v rfl) fun v H3 e3 hv => ?_
    obtain rfl : v = _ := hv
    rw [g3.len, List.take_length] at hk
    exact q _ H3 (e2.trans e3) ⟨lt, rfl, nt, e3 _ _ hk⟩
/-- keep_unless_long -/
def sp_keep (T : Txt K mg) : Sp := fun vs H Q _ => ∃ (a l lc : Addr) (s : Sr73.Means) (m : List Frac), vs = [.ref a, .ref lc] ∧ SpAt T H a l (some s) ∧ FrL K m (.ref lc) H ∧
  (m.any long = true → ∀ H', Ex H H' → Q (.bl false) H') ∧
  (m.any long = false → ∀ H1 dx, Ex H H1 → H1 a = some (.ins T.Spread.C dx (sF s.k l)) → Q (.bl true) (upd H1 a (.ins T.Spread.C dx (sF s.k lc))))
theorem ok_keep_unless_long (T : Txt K mg) (B : Bs P base) : FnOk P w K mg base CX0 2 T.keep_unless_long.f T.keep_unless_long.fd ["spread", "changed"] (sp_keep T) := by
  refine T.keep_unless_long.F.ok sc_keep_unless_long (fun vs H Q E h => ?_) (fun cdv Ar outer s0 H vs Q E hr h => ?_)
  · obtain ⟨a, l, lc, s, m, rfl, _⟩ := h
    rfl
  obtain ⟨a, l, lc, s, m, rfl, ho, hm, q1, q2⟩ := h
  refine ⟨_, (pss_cons (ps_for PassesOwn.never (by rfl) (pi_list (pv 1)) (pg_name (i := 2) sc_keep_unless_long.nd rfl (Or.inl rfl)) (pss_one (ps_if (pt_val (pe_df T.too_long (ok_too_long T B) hr (pa_cons (pv 2) pa_nil))) (pss_one (ps_ret pe_bl)) pss_nil)))
      (pss_cons (ps_fld (pv 0) (pv 1) (by rfl))
      (pss_one (ps_ret pe_bl)))), ?_⟩
  obtain ⟨lc', us, ec, hl, fs⟩ := hm
  obtain rfl := V.ref.inj ec
  refine sp_for_list (K := K) (a := lc) (xs := us) (ep_v rfl) (fun k σ H' => ∃ vo, σ = [some (.ref a), some (.ref lc), vo] ∧ Ex H H' ∧ (m.take k).any long = false) ?_ ?_ ?_ ?_
  · intro H1 e1
    exact ⟨none, rfl, e1, by simp⟩
  · rintro k σ H1 ⟨vo, rfl, e1, _⟩
    exact sq_of (e1 _ _ hl)
  · rintro k y σ H1 hy ⟨vo, rfl, e1, hk⟩
    have hk' : k < m.length := by
      rw [← fs.len]
      exact (List.getElem?_eq_some_iff.mp hy).1
    obtain ⟨y', hy', fy⟩ := (fs.mono e1).at hk'
    rw [hy] at hy'
    obtain rfl := Option.some.inj hy'
    have hx : m[k]? = some (m.getD k zero) := by
      rw [List.getD_eq_getElem?_getD, List.getElem?_eq_getElem hk']
      rfl
    refine sp_if (et_b (ep_call (m.getD k zero) trivial (ea_c (ep_var rfl fy mo_fr) mo_fr ea_n))) (fun cc H2 e2 => ?_) fun cc H2 e2 => ?_
    · refine sp_ret ep_c fun v H3 e3 hv => ?_
      obtain rfl : v = _ := hv
      exact q1 (List.any_eq_true.mpr ⟨_, List.mem_of_getElem? hx, cc⟩) H3 ((e1.trans e2).trans e3)
    · refine ⟨some y, rfl, e1.trans e2, ?_⟩
      rw [List.take_succ, hx, List.any_append, hk]
      simpa using cc
  · rintro σ H1 ⟨vo, rfl, e1, hk⟩
    rw [fs.len, List.take_length] at hk
    obtain ⟨⟨dx, g1⟩, ms, g2, g3⟩ := ho.mono e1
    refine sp_fld (K := K) (ep_v rfl) (ep_v rfl) g1 T.Spread.cl T.nMeans (by show 2 < 1000; decide) (fun y H3 e3 hy _ => ?_) (mo_is _)
    obtain rfl : y = _ := hy
    dsimp only
    rw [sF_putM]
    refine sp_ret ep_c fun v H5 e5 hv => ?_
    obtain rfl : v = _ := hv
    have hH5 : ∃ H4, Ex H H4 ∧ H4 a = some (.ins T.Spread.C dx (sF s.k l)) ∧ H5 = upd H4 a (.ins T.Spread.C dx (sF s.k lc)) := by
      refine ⟨upd H5 a (.ins T.Spread.C dx (sF s.k l)), fun b o hb => ?_, upd_same, ?_⟩
      · by_cases c : b = a
        · subst c
          rw [upd_same, ← (e1.trans e3) _ _ hb]
          exact (e3 _ _ g1).symm
        · rw [upd_ne c]
          exact e5 _ _ (by rw [upd_ne c]; exact (e1.trans e3) _ _ hb)
      · funext b
        by_cases c : b = a
        · subst c
          rw [upd_same]
          exact e5 _ _ upd_same
        · rw [upd_ne c, upd_ne c]
    obtain ⟨H4, e4, h4, rfl⟩ := hH5
    exact q2 hk H4 dx e4 h4
theorem small_long (s : Sr73.Means) : Sr73.small s = !(s.m.any long) := by
  unfold Sr73.small
  induction s.m with
  | nil => rfl
  | cons x r ih =>
    rw [List.all_cons, List.any_cons, Bool.not_or, ih]
    congr 1
    unfold long
    rw [Bool.not_not]
/-- a fraction that's handed in, its upper number within 999 -/
theorem okF_sz {a b : Int} (h : Sr73.okF a b = true) : ∃ d : Nat, b = (d : Int) ∧ 0 < d ∧ Nf (frac a d) ∧ Sz 10 (frac a d) := by
  unfold Sr73.okF at h
  simp at h
  obtain ⟨d, rfl⟩ : ∃ d : Nat, b = (d : Int) := ⟨b.toNat, by omega⟩
  have hd : 0 < d := by omega
  exact ⟨d, rfl, hd, nf_frac hd, sz_frac hd (by omega) (by omega)⟩
theorem shTo_sz {x c : Frac} {a b : Nat} (hx : Nf x) (hc : Nf c) (sx : Sz a x) (sc : Sz b c) : ∀ i, Sz (b + i * a) (shTo x c i)
  | 0 => sc.mono (by omega)
  | i + 1 => (sz_times (shTo_ok hx hc i).1 hx (shTo_sz hx hc sx sc i) sx).mono (by rw [Nat.succ_mul]; omega)
theorem wp_ok {s : Sr73.Means} (hg : Good s) {x c : Frac} {b : Nat} (hx : Nf x) (hc : Nf c) (sx : Sz 10 x) (sc : Sz b c) (hb : b ≤ 67000000) : WpOk s.m x c where
  lm := by have := hg.len; have := hg.k4; omega
  fx := fi_of hx sx (by decide)
  fm := fun i _ => fi_of (nf_getD hg.nf i) (hg.sz i) (by decide)
  fs := fun i hi => fi_of (shTo_ok hx hc i).1 (shTo_sz hx hc sx sc i) (by have := hg.len; have := hg.k4; omega)
end
end Sm


/-! # The calls' defs -/
namespace Sm
open PySem PySem.Spec PyProof.Rows L2 Evl
open Sr58 (Frac frac plus times whole)
open Sr66 (minus over zero neg)
section
variable {P : Program} {w : World} {K : PySem.W.Frag} {mg : Str → Option Value} {base : Heap}
theorem int1 {H : Hp} {a : Addr} {n : Int} (h : H a = some (.lst ([n].map V.int))) : H a = some (.lst [V.int n]) := h
def ok_begin_ : Sr73.State → List Int → List Int → Sr73.Call → Prop := fun _ ns _ c => ∃ k, ns = [k] ∧ c = .begin_ k
theorem ok_begin (T : Txt K mg) (B : Bs P base) : FnOk P w K mg base CX0 46 T.begin.f T.begin.fd ["spread", "numbers", "row"] (spC T ok_begin_) := by
  refine ok_spC T.begin sc_begin fun cdv Ar outer s H Q E a l ln lr ns row z c hr ho hn hw hg hc q => ?_
  obtain ⟨k, rfl, rfl⟩ := hc
  refine ⟨_, (pss_cons (ps_set (i := 3) sc_begin.nd rfl (Or.inl rfl) (pe_ix ix_list (pv 1) pe_int (fun _ _ => rfl)))
      (pss_cons (ps_if (pt_not (pt_chain op_le op_le pe_int (pv 3) pe_int)) (pss_one (ps_ret (pe_lst (pa_cons (pe_glob (by rfl) T.NOT_TAKEN.g T.NOT_TAKEN.r) pa_nil)))) pss_nil)
      (pss_cons (ps_fld (pv 0) (pv 3) (by rfl))
      (pss_cons (ps_fld (pv 0) (pe_df T.first_means (ok_first_means T B) hr (pa_cons (pv 3) pa_nil)) (by rfl))
      (pss_one (ps_ret (pe_lst (pa_cons (pe_callB call_len_seq (by rfl) T.len (by decide +kernel) (pa_cons (pe_fld (pv 0) (by rfl)) pa_nil)) pa_nil)))))))), ?_⟩
  refine sp_asg (ep_ixI (K := K) (i := 0) (ep_var rfl ⟨ln, rfl, hn⟩ mo_il) ep_c rfl) fun v H1 e1 hv => ?_
  obtain rfl : v = _ := hv
  refine sp_if (et_not' (et_t (ep_chain (g := fun i j => decide (i ≤ j)) (g' := fun i j => decide (i ≤ j)) ep_c (ep_v rfl) ep_c))) (fun cc H2 e2 => ?_) fun cc H2 e2 => ?_
  · have bad : k < 1 ∨ (Sr73.HALF : Int) < k := by
      show k < 1 ∨ (4 : Int) < k
      simp at cc
      omega
    have es : Sr73.step z (.begin_ k) = (z, Sr73.say (-22)) := if_pos bad
    refine sp_ret (ep_lstI (ea_i (ep_cR (v := .int (-22)) fun _ => rfl) ea_in) (by decide)) fun v H3 e3 hv => ?_
    obtain ⟨p, rfl, np, hp⟩ := hv
    have e13 := (e1.trans e2).trans e3
    exact q p H3 l (none_back (e1.trans e2) np) (by rw [es]; exact hp) (Else.of e13) (by rw [es]; exact ho.mono e13) (.inl rfl)
  · have good : ¬ (k < 1 ∨ (Sr73.HALF : Int) < k) := by
      show ¬ (k < 1 ∨ (4 : Int) < k)
      simp at cc
      omega
    have good' : ¬ (k < 1 ∨ (4 : Int) < k) := good
    obtain ⟨n, rfl⟩ : ∃ n : Nat, k = (n : Int) := ⟨k.toNat, by omega⟩
    have hn4 : n ≤ 4 := by omega
    have es : Sr73.step z (.begin_ (n : Int)) = (some ⟨n, firstM n⟩, Sr73.say (2 * (n : Int) + 1)) := by
      refine (if_neg good).trans ?_
      rw [Int.toNat_natCast]
      rfl
    have e12 := e1.trans e2
    obtain ⟨⟨dx, h1⟩, us, h2, h3⟩ := ho.mono e12
    have ne : a ≠ l := ho.ne
    dsimp only
    refine sp_fld (K := K) (ep_v rfl) (ep_v rfl) h1 T.Spread.cl T.nK (by show 2 < 1000; decide) (fun y H3 e3 hy _ => ?_) (mo_is _)
    obtain rfl : y = _ := hy
    dsimp only
    rw [sF_putK]
    have h1' := e3 _ _ h1
    refine sp_fld (K := K) (ep_callN n hn4 (ea_c (ep_v rfl) (mo_is _) ea_n)) (ep_v rfl) upd_same T.Spread.cl T.nMeans (by show 2 < 1000; decide) (fun y H4 e4 hy _ => ?_) mo_frn
    obtain ⟨lm, ms, rfl, nm, hm, fm⟩ := hy
    dsimp only
    rw [sF_putM]
    have nea : lm ≠ a := fun z => by
      rw [z, upd_same] at nm
      cases nm
    have h4a := e4 _ _ (upd_same : upd H3 a (.ins T.Spread.C dx (sF n l)) a = _)
    have hm' : FrL K (firstM n) (.ref lm) (upd H4 a (.ins T.Spread.C dx (sF n lm))) := ⟨lm, ms, rfl, by rw [upd_ne nea]; exact hm, fs_updI h4a fm⟩
    refine sp_ret (ep_lstI (ea_i ((ep_lenF (K := K) (ep_is (ep_fld (K := K) (ep_v rfl) upd_same T.Spread.cl T.nMeans (sF_means n lm)) hm' mo_frl)).to (by rw [show (firstM n).length = 2 * n + 1 by simp [firstM]])) ea_in) (by simp)) fun v H5 e5 hv => ?_
    obtain ⟨p, rfl, np, hp⟩ := hv
    have big : Else a l H H5 := fun b o hb n1 n2 => e5 _ _ (by
      rw [upd_ne n1]
      exact e4 _ _ (by rw [upd_ne n1]; exact e3 _ _ (e12 _ _ hb)))
    refine q p H5 lm ?_ ?_ big ?_ (.inr ?_)
    · have z1 : H4 p = none := by
        by_cases pa : p = a
        · rw [pa, upd_same] at np; cases np
        · rw [upd_ne pa] at np; exact np
      have z2 := none_back e4 z1
      have z3 : H3 p = none := by
        by_cases pa : p = a
        · rw [pa, upd_same] at z2; cases z2
        · rw [upd_ne pa] at z2; exact z2
      exact none_back (e12.trans e3) z3
    · rw [es]
      show H5 p = some (.lst ([2 * (n : Int) + 1].map V.int))
      rw [hp]
      congr 3
    · rw [es]
      refine SpAt.mono e5 ⟨⟨dx, upd_same⟩, ms, ?_, fs_updI h4a fm⟩
      rw [upd_ne nea]
      exact hm
    · rw [upd_ne nea] at nm
      exact none_back (e12.trans e3) nm

theorem step_none {s : Sr73.Means} {c : Sr73.Call} {y : Sr66.Ans} (hb : ∀ k, c ≠ .begin_ k) (h : Sr73.doing s c = (none, y)) : Sr73.step (some s) c = (some s, y) := by
  cases c with
  | begin_ k => exact absurd rfl (hb k)
  | _ => simp only [Sr73.step, h]
theorem step_some {s r : Sr73.Means} {c : Sr73.Call} {y : Sr66.Ans} (hb : ∀ k, c ≠ .begin_ k) (h : Sr73.doing s c = (some r, y)) : Sr73.step (some s) c = (some r, y) := by
  cases c with
  | begin_ k => exact absurd rfl (hb k)
  | _ => simp only [Sr73.step, h]
/-- the list of means, read off the object -/
theorem ep_means {T : Txt K mg} {σ : L2.St} {H : Hp} {a l : Addr} {s : Sr73.Means} {ta : TE} (ha : EvP ta σ H (Is (.ref a))) (ho : SpAt T H a l (some s)) : EvP (tFld K ta "means") σ H (FrL K s.m) := by
  obtain ⟨⟨dx, h1⟩, us, h2, h3⟩ := ho
  exact ep_is (ep_fld (K := K) ha h1 T.Spread.cl T.nMeans (sF_means _ _)) ⟨l, us, rfl, h2, h3⟩ mo_frl
theorem ep_kk {T : Txt K mg} {σ : L2.St} {H : Hp} {a l : Addr} {s : Sr73.Means} {ta : TE} (ha : EvP ta σ H (Is (.ref a))) (ho : SpAt T H a l (some s)) : EvP (tFld K ta "k") σ H (Is (.int (s.k : Int))) := by
  obtain ⟨⟨dx, h1⟩, us, h2, h3⟩ := ho
  exact ep_fld (K := K) ha h1 T.Spread.cl T.nK (sF_k _ _)
theorem fit_nat {n : Nat} (h : n ≤ 1000) : Fit (n : Int) := fit_small (by rw [Int.natAbs_natCast]; exact Nat.lt_of_le_of_lt h (by decide))
def ok_set_ : Sr73.State → List Int → List Int → Sr73.Call → Prop := fun st ns _ c => ∃ s i a b, st = some s ∧ ns = [i, a, b] ∧ c = .set_ i a b
theorem ok_set_mean (T : Txt K mg) (B : Bs P base) : FnOk P w K mg base CX0 46 T.set_mean.f T.set_mean.fd ["spread", "numbers", "row"] (spC T ok_set_) := by
  refine ok_spC T.set_mean sc_set_mean fun cdv Ar outer s0 H Q E a l ln lr ns row z c hr ho hn hw hg hc q => ?_
  obtain ⟨s, i, u, b, rfl, rfl, rfl⟩ := hc
  have hg : Good s := hg
  have nb : ∀ k, Sr73.Call.set_ i u b ≠ .begin_ k := fun k z => by cases z
  refine ⟨_, (pss_cons (ps_set (i := 3) sc_set_mean.nd rfl (Or.inl rfl) (pe_ix ix_list (pv 1) pe_int (fun _ _ => rfl)))
      (pss_cons (ps_set (i := 4) sc_set_mean.nd rfl (Or.inl rfl) (pe_ix ix_list (pv 1) pe_int (fun _ _ => rfl)))
      (pss_cons (ps_set (i := 5) sc_set_mean.nd rfl (Or.inl rfl) (pe_ix ix_list (pv 1) pe_int (fun _ _ => rfl)))
      (pss_cons (ps_if (pt_not (pt_chain op_le op_le pe_int (pv 3) (pe_op op_mulA pe_int (pe_fld (pv 0) (by rfl))))) (pss_one (ps_ret (pe_lst (pa_cons (pe_glob (by rfl) T.NO_SUCH_POWER.g T.NO_SUCH_POWER.r) pa_nil)))) pss_nil)
      (pss_cons (ps_if (pt_not (PW.pt (pw_and (pt_chain op_le op_le (pe_un un_neg pe_int) (pv 4) pe_int) (pw_and1 (pt_chain op_le op_le pe_int (pv 5) pe_int))))) (pss_one (ps_ret (pe_lst (pa_cons (pe_glob (by rfl) T.NOT_TAKEN.g T.NOT_TAKEN.r) pa_nil)))) pss_nil)
      (pss_cons (ps_set (i := 6) sc_set_mean.nd rfl (Or.inl rfl) (pe_ix ix_list (pe_fld (pv 0) (by rfl)) (pv 3) (fun _ _ => rfl)))
      (pss_cons (ps_asg (pe_df T.fraction (ok_fraction T B) hr (pa_cons (pv 4) (pa_cons (pv 5) pa_nil))) (pg_sub (pe_fld (pv 0) (by rfl)) (pv 3) set_list))
      (pss_one (ps_ret (pe_df T.with_fractions (ok_with_fractions T B) hr (pa_cons pe_int (pa_cons (pe_lst (pa_cons (pv 6) pa_nil)) pa_nil)))))))))))), ?_⟩
  have vN : ∀ {H1 : Hp} {σ : L2.St}, Ex H H1 → σ[1]? = some (some (.ref ln)) → EvP (tVar 1) σ H1 (IL [i, u, b]) := fun e h => ep_var h ⟨ln, rfl, e _ _ hn⟩ mo_il
  refine sp_asg (ep_ixI (K := K) (i := 0) (vN (Ex.refl _) rfl) ep_c rfl) fun v H1 e1 hv => ?_
  obtain rfl : v = _ := hv
  refine sp_asg (ep_ixI (K := K) (i := 1) (vN e1 rfl) ep_c rfl) fun v H2 e2 hv => ?_
  obtain rfl : v = _ := hv
  refine sp_asg (ep_ixI (K := K) (i := 2) (vN (e1.trans e2) rfl) ep_c rfl) fun v H3 e3 hv => ?_
  obtain rfl : v = _ := hv
  have e03 := (e1.trans e2).trans e3
  have ho3 := ho.mono e03
  refine sp_if (et_not' (et_t (ep_chain (g := fun i j => decide (i ≤ j)) (g' := fun i j => decide (i ≤ j)) ep_c (ep_v rfl) (ep_mul ep_c (ep_kk (ep_v rfl) ho3) (fit_small (by decide)) (fit_nat (by have := hg.k4; omega)))))) (fun cc H4 e4 => ?_) fun cc H4 e4 => ?_
  · have bad : i < 0 ∨ (2 * s.k : Int) < i := by
      simp at cc
      omega
    refine sp_ret (ep_lstI (ea_i (ep_cR (v := .int (-2)) fun _ => rfl) ea_in) (by simp)) fun v H5 e5 hv => ?_
    obtain ⟨p, rfl, np, hp⟩ := hv
    have es := step_none nb (show Sr73.doing s (.set_ i u b) = (none, Sr73.say (-2)) from if_pos bad)
    exact told_end q ho ((e03.trans e4).trans e5) ⟨p, rfl, none_back (e03.trans e4) np, hp⟩ (by rw [es]) (by rw [es]; rfl)
  have ok1 : ¬ (i < 0 ∨ (2 * s.k : Int) < i) := by
    simp at cc
    omega
  have e04 := e03.trans e4
  dsimp only
  refine sp_if (et_not' (et_and' (et_t (ep_chain (g := fun i j => decide (i ≤ j)) (g' := fun i j => decide (i ≤ j)) (ep_neg ep_c) (ep_v rfl) ep_c)) fun _ => et_t (ep_chain (g := fun i j => decide (i ≤ j)) (g' := fun i j => decide (i ≤ j)) ep_c (ep_v rfl) ep_c))) (fun c2 H5 e5 => ?_) fun c2 H5 e5 => ?_
  · have bad : u < -99999 ∨ 99999 < u ∨ b < 1 ∨ 99999 < b := by
      simp at c2
      omega
    refine sp_ret (ep_lstI (ea_i (ep_cR (v := .int (-22)) fun _ => rfl) ea_in) (by simp)) fun v H6 e6 hv => ?_
    obtain ⟨p, rfl, np, hp⟩ := hv
    have es := step_none nb (show Sr73.doing s (.set_ i u b) = (none, Sr73.say (-22)) from (if_neg ok1).trans (if_pos bad))
    exact told_end q ho ((e04.trans e5).trans e6) ⟨p, rfl, none_back (e04.trans e5) np, hp⟩ (by rw [es]) (by rw [es]; rfl)
  have ok2 : ¬ (u < -99999 ∨ 99999 < u ∨ b < 1 ∨ 99999 < b) := by
    simp at c2
    omega
  obtain ⟨n, rfl⟩ : ∃ n : Nat, i = (n : Int) := ⟨i.toNat, by omega⟩
  obtain ⟨d, rfl⟩ : ∃ d : Nat, b = (d : Int) := ⟨b.toNat, by omega⟩
  have hnl : n < s.m.length := by rw [hg.len]; omega
  have es := step_some nb (show Sr73.doing s (.set_ (n : Int) u (d : Int)) = (some { s with m := s.m.set n (frac u d) }, Sr73.tell (Sr73.meanAt s n)) by
    refine (if_neg ok1).trans ((if_neg ok2).trans ?_)
    rw [Int.toNat_natCast, Int.toNat_natCast])
  have e05 := e04.trans e5
  have ho5 := ho.mono e05
  dsimp only
  refine sp_asg (ep_ixF (K := K) (ep_means (ep_v rfl) ho5) (ep_v rfl) hnl) fun vo H6 e6 hvo => ?_
  have ho6 := ho5.mono e6
  obtain ⟨⟨dx, g1⟩, us, g2, g3⟩ := ho6
  dsimp only
  refine sp_asgG (ep_call (u, (d : Int)) (show (d : Int) ≠ 0 by omega) (ea_c (ep_v rfl) (mo_is _) (ea_c (ep_v rfl) (mo_is _) ea_n))) fun v H7 e7 hv => ?_
  have g1' := e7 _ _ g1
  have g2' := e7 _ _ g2
  have hul : n < us.length := by rw [g3.len]; exact hnl
  refine ⟨_, rfl, a, _, _, _, _, rfl, g1', T.Spread.cl, T.nMeans, sF_means _ _, _, rfl, l, us, (n : Int), n, rfl, rfl, g2', by unfold ixN; rw [if_pos (by omega), if_pos (by omega)]; simp, ?_⟩
  have hvo7 : Fr K (s.m.getD n zero) vo (upd H7 l (.lst (us.set n v))) := fr_upd g2' (mo_fr _ _ _ e7 hvo)
  dsimp only
  refine sp_ret (ep_wf ep_c (ep_frl (ep_lst1 (ep_var rfl hvo7 mo_fr))) (by simp)) fun v8 H8 e8 hv8 => ?_
  obtain ⟨p, rfl, np, hp⟩ := hv8
  have e07 := (e05.trans e6).trans e7
  refine q p H8 l (none_back e07 (none_upd np)) (by rw [es]; exact hp) (fun b o hb n1 n2 => e8 _ _ (by rw [upd_ne n2]; exact e07 _ _ hb)) ?_ (.inl rfl)
  rw [es]
  refine SpAt.mono e8 ⟨⟨dx, by rw [upd_ne ho.ne]; exact g1'⟩, us.set n v, upd_same, ?_⟩
  refine Fs.set (fr_upd g2' ?_) (fs_upd g2' (g3.mono e7))
  rw [← fracI_nat]
  exact hv
end
end Sm


/-! # The calls' defs, the second part -/
namespace Sm
open PySem PySem.Spec PyProof.Rows L2 Evl
open Sr58 (Frac frac plus times whole)
open Sr66 (minus over zero neg)
section
variable {P : Program} {w : World} {K : PySem.W.Frag} {mg : Str → Option Value} {base : Heap}
def ok_row_ : Sr73.State → List Int → List Int → Sr73.Call → Prop := fun st ns row c => ∃ s e, st = some s ∧ ns = [e] ∧ c = .row e row
theorem ok_set_row (T : Txt K mg) (B : Bs P base) : FnOk P w K mg base CX0 46 T.set_row.f T.set_row.fd ["spread", "numbers", "row"] (spC T ok_row_) := by
  refine ok_spC T.set_row sc_set_row fun cdv Ar outer s0 H Q E a l ln lr ns row z c hr ho hn hw hg hc q => ?_
  obtain ⟨s, e, rfl, rfl, rfl⟩ := hc
  have hg : Good s := hg
  have nb : ∀ k, Sr73.Call.row e row ≠ .begin_ k := fun k z => by cases z
  refine ⟨_, (pss_cons (ps_set (i := 3) sc_set_row.nd rfl (Or.inr rfl) (pe_ix ix_list (pv 1) pe_int (fun _ _ => rfl)))
      (pss_cons (ps_if (PW.pt (pw_or (pt_not (pt_chain op_le op_le pe_int (pv 3) pe_int)) (pw_or1 (pt_cmpR op_ne (pe_callB call_len_seq (by rfl) T.len (by decide +kernel) (pa_cons (pv 2) pa_nil)) (pe_callB call_len_seq (by rfl) T.len (by decide +kernel) (pa_cons (pe_fld (pv 0) (by rfl)) pa_nil)) (nomark _))))) (pss_one (ps_ret (pe_lst (pa_cons (pe_glob (by rfl) T.NOT_TAKEN.g T.NOT_TAKEN.r) pa_nil)))) pss_nil)
      (pss_cons (ps_fld (pv 0) (pe_lc (own := [("upper", 4)]) (g := gName 4) (tt := tYes) (by rfl) sc_set_row.nd  (pi_list (pv 2)) (blkOk_by (own := [("upper", 4)]) (N := ["spread", "numbers", "row", "lower", "upper"]) (sc := defScope s_set_row) (by decide +kernel)) (fun _ _ _ _ _ => pg_name (i := 4) sc_set_row.nd rfl (Or.inl rfl)) (fun _ _ _ _ _ => pts_nil) (fun _ _ _ _ _ => (pe_df T.fraction (ok_fraction T B) hr (pa_cons (pv 4) (pa_cons (pv 3) pa_nil))))) (by rfl))
      (pss_one (ps_ret (pe_lst (pa_cons pe_int pa_nil))))))), ?_⟩
  refine sp_asg (ep_ixI (K := K) (i := 0) (ep_var rfl ⟨ln, rfl, hn⟩ mo_il) ep_c rfl) fun v H1 e1 hv => ?_
  obtain rfl : v = _ := hv
  have ho1 := ho.mono e1
  have vR : ∀ {H1 : Hp} {σ : L2.St}, Ex H H1 → σ[2]? = some (some (.ref lr)) → EvP (tVar 2) σ H1 (IL row) := fun e h => ep_var h ⟨lr, rfl, e _ _ hw⟩ mo_il
  refine sp_if (et_or' (et_not' (et_t (ep_chain (g := fun i j => decide (i ≤ j)) (g' := fun i j => decide (i ≤ j)) ep_c (ep_v rfl) ep_c))) fun _ => et_t (ep_ne (ep_lenI (K := K) (vR e1 rfl)) (ep_lenF (K := K) (ep_means (ep_v rfl) ho1)))) (fun cc H2 e2 => ?_) fun cc H2 e2 => ?_
  · have bad : e < 1 ∨ 99999 < e ∨ row.length ≠ 2 * s.k + 1 := by
      have hl := hg.len
      simp at cc
      omega
    refine sp_ret (ep_lstI (ea_i (ep_cR (v := .int (-22)) fun _ => rfl) ea_in) (by simp)) fun v H5 e5 hv => ?_
    obtain ⟨p, rfl, np, hp⟩ := hv
    have es := step_none nb (show Sr73.doing s (.row e row) = (none, Sr73.say (-22)) from if_pos bad)
    exact told_end q ho ((e1.trans e2).trans e5) ⟨p, rfl, none_back (e1.trans e2) np, hp⟩ (by rw [es]) (by rw [es]; rfl)
  · have hl := hg.len
    have ok1 : ¬ (e < 1 ∨ 99999 < e ∨ row.length ≠ 2 * s.k + 1) := by
      simp at cc
      omega
    obtain ⟨d, rfl⟩ : ∃ d : Nat, e = (d : Int) := ⟨e.toNat, by omega⟩
    have es := step_some nb (show Sr73.doing s (.row (d : Int) row) = (some { s with m := row.map fun x => frac x d }, Sr73.say 0) by
      refine (if_neg ok1).trans ?_
      rw [Int.toNat_natCast])
    have e02 := e1.trans e2
    obtain ⟨⟨dx, g1⟩, us, g2, g3⟩ := ho.mono e02
    dsimp only
    refine sp_fld (K := K) (ep_lcL (K := K) (g := fun x => frac x d) (vR e02 rfl) (by have := hg.k4; omega) (fun v => rfl) fun n H3 _ e3 => ?_) (ep_v rfl) g1 T.Spread.cl T.nMeans (by show 2 < 1000; decide) (fun y H3 e3 hy _ => ?_) mo_frn
    · show EvP _ _ _ (Fr K (frac n d))
      rw [← fracI_nat]
      exact ep_call (n, (d : Int)) (show (d : Int) ≠ 0 by omega) (ea_c (ep_v rfl) (mo_is _) (ea_c (ep_v rfl) (mo_is _) ea_n))
    · obtain ⟨lm, ms, rfl, nm, hm, fm⟩ := hy
      dsimp only
      rw [sF_putM]
      have g1' := e3 _ _ g1
      have nea : lm ≠ a := fun z => by
        rw [z, g1] at nm
        cases nm
      refine sp_ret (ep_lstI (ea_i ep_c ea_in) (by simp)) fun v H5 e5 hv => ?_
      obtain ⟨p, rfl, np, hp⟩ := hv
      refine q p H5 lm (none_back (e02.trans e3) (none_upd np)) (by rw [es]; exact hp) (fun b o hb n1 n2 => e5 _ _ (by rw [upd_ne n1]; exact e3 _ _ (e02 _ _ hb))) ?_ (.inr (none_back e02 nm))
      rw [es]
      exact SpAt.mono e5 ⟨⟨dx, upd_same⟩, ms, by rw [upd_ne nea]; exact hm, fs_updI g1' fm⟩
/-- what a call that keeps its change ends with, behind keep_unless_long -/
theorem keep_end {T : Txt K mg} {H H' : Hp} {a l lc dx : Addr} {s : Sr73.Means} {m : List Frac} {us : List V} {c : Sr73.Call} {Q : VK} {v : V} {ns : List Int}
    (q : ∀ (p : Addr) (H' : Hp) (l' : Addr), H p = none → H' p = some (.lst ((told (Sr73.step (some s) c).2).map V.int)) → Else a l H H' → SpAt T H' a l' (Sr73.step (some s) c).1 → (l' = l ∨ H l' = none) → Q (.ref p) H')
    (e : Ex H H') (nl : H lc = none) (hl : H' lc = some (.lst us)) (fs : Fs K H' us m) (ho : H' a = some (.ins T.Spread.C dx (sF s.k l))) {H2 : Hp} (e2 : Ex (upd H' a (.ins T.Spread.C dx (sF s.k lc))) H2)
    (hv : IN ns (upd H' a (.ins T.Spread.C dx (sF s.k lc))) v H2) (e1 : (Sr73.step (some s) c).1 = some { s with m := m }) (en : told (Sr73.step (some s) c).2 = ns) : Q v H2 := by
  obtain ⟨p, rfl, np, hp⟩ := hv
  have nea : lc ≠ a := fun z => by
    rw [z, ho] at hl
    cases hl
  refine q p H2 lc (none_back e (none_upd np)) (by rw [en]; exact hp) (fun b o hb n1 n2 => e2 _ _ (by rw [upd_ne n1]; exact e _ _ hb)) ?_ (.inr nl)
  rw [e1]
  exact SpAt.mono e2 ⟨⟨dx, upd_same⟩, us, by rw [upd_ne nea]; exact hl, fs_updI ho fs⟩
def ok_put_ : Sr73.State → List Int → List Int → Sr73.Call → Prop := fun st ns _ c => ∃ s a b x y, st = some s ∧ ns = [a, b, x, y] ∧ c = .put a b x y
theorem ok_put (T : Txt K mg) (B : Bs P base) : FnOk P w K mg base CX0 47 T.put.f T.put.fd ["spread", "numbers", "row"] (spC T ok_put_) := by
  refine ok_spC T.put sc_put fun cdv Ar outer s0 H Q E a l ln lr ns row z c hr ho hn hw hg hc q => ?_
  obtain ⟨s, n0, n1, n2, n3, rfl, rfl, rfl⟩ := hc
  have hg : Good s := hg
  have nb : ∀ k, Sr73.Call.put n0 n1 n2 n3 ≠ .begin_ k := fun k z => by cases z
  refine ⟨_, (pss_cons (ps_if (pt_not (PW.pt (pw_and (pt_val (pe_df T.is_small_fraction (ok_is_small_fraction T B) hr (pa_cons (pe_ix ix_list (pv 1) pe_int (fun _ _ => rfl)) (pa_cons (pe_ix ix_list (pv 1) pe_int (fun _ _ => rfl)) pa_nil)))) (pw_and1 (pt_val (pe_df T.is_small_fraction (ok_is_small_fraction T B) hr (pa_cons (pe_ix ix_list (pv 1) pe_int (fun _ _ => rfl)) (pa_cons (pe_ix ix_list (pv 1) pe_int (fun _ _ => rfl)) pa_nil)))))))) (pss_one (ps_ret (pe_lst (pa_cons (pe_glob (by rfl) T.NOT_TAKEN.g T.NOT_TAKEN.r) pa_nil)))) pss_nil)
      (pss_cons (ps_set (i := 3) sc_put.nd rfl (Or.inl rfl) (pe_df T.fraction (ok_fraction T B) hr (pa_cons (pe_ix ix_list (pv 1) pe_int (fun _ _ => rfl)) (pa_cons (pe_ix ix_list (pv 1) pe_int (fun _ _ => rfl)) pa_nil))))
      (pss_cons (ps_set (i := 4) sc_put.nd rfl (Or.inl rfl) (pe_df T.fraction (ok_fraction T B) hr (pa_cons (pe_ix ix_list (pv 1) pe_int (fun _ _ => rfl)) (pa_cons (pe_ix ix_list (pv 1) pe_int (fun _ _ => rfl)) pa_nil))))
      (pss_cons (ps_if (pt_not (pt_val (pe_df T.keep_unless_long (ok_keep_unless_long T B) hr (pa_cons (pv 0) (pa_cons (pe_df T.with_point (ok_with_point T B) hr (pa_cons (pe_fld (pv 0) (by rfl)) (pa_cons (pv 3) (pa_cons (pv 4) pa_nil)))) pa_nil))))) (pss_one (ps_ret (pe_lst (pa_cons (pe_glob (by rfl) T.TOO_LONG.g T.TOO_LONG.r) pa_nil)))) pss_nil)
      (pss_one (ps_ret (pe_lst (pa_cons pe_int pa_nil)))))))), ?_⟩
  have vN : ∀ {H1 : Hp} {σ : L2.St}, Ex H H1 → σ[1]? = some (some (.ref ln)) → EvP (tVar 1) σ H1 (IL [n0, n1, n2, n3]) := fun e h => ep_var h ⟨ln, rfl, e _ _ hn⟩ mo_il
  have x0 : ∀ {H1 : Hp} {σ : L2.St}, Ex H H1 → σ[1]? = some (some (.ref ln)) → EvP (tOp (rIxL K) (tVar 1) (tC (.int 0))) σ H1 (Is (.int n0)) := fun e h => ep_ixI (K := K) (i := 0) (vN e h) ep_c rfl
  have x1 : ∀ {H1 : Hp} {σ : L2.St}, Ex H H1 → σ[1]? = some (some (.ref ln)) → EvP (tOp (rIxL K) (tVar 1) (tC (.int 1))) σ H1 (Is (.int n1)) := fun e h => ep_ixI (K := K) (i := 1) (vN e h) ep_c rfl
  have x2 : ∀ {H1 : Hp} {σ : L2.St}, Ex H H1 → σ[1]? = some (some (.ref ln)) → EvP (tOp (rIxL K) (tVar 1) (tC (.int 2))) σ H1 (Is (.int n2)) := fun e h => ep_ixI (K := K) (i := 2) (vN e h) ep_c rfl
  have x3 : ∀ {H1 : Hp} {σ : L2.St}, Ex H H1 → σ[1]? = some (some (.ref ln)) → EvP (tOp (rIxL K) (tVar 1) (tC (.int 3))) σ H1 (Is (.int n3)) := fun e h => ep_ixI (K := K) (i := 3) (vN e h) ep_c rfl
  refine sp_if (et_not' (et_and' (et_b (ep_call (n0, n1) trivial (ea_c (x0 (Ex.refl _) rfl) (mo_is _) (ea_c (x1 (Ex.refl _) rfl) (mo_is _) ea_n)))) fun _ => et_b (ep_call (n2, n3) trivial (ea_c (x2 (Ex.refl _) rfl) (mo_is _) (ea_c (x3 (Ex.refl _) rfl) (mo_is _) ea_n))))) (fun cc H1 e1 => ?_) fun cc H1 e1 => ?_
  · have bad : Sr73.okF n0 n1 = false ∨ Sr73.okF n2 n3 = false := by
      revert cc
      cases Sr73.okF n0 n1 <;> cases Sr73.okF n2 n3 <;> simp
    refine sp_ret (ep_lstI (ea_i (ep_cR (v := .int (-22)) fun _ => rfl) ea_in) (by simp)) fun v H5 e5 hv => ?_
    obtain ⟨p, rfl, np, hp⟩ := hv
    have es := step_none nb (show Sr73.doing s (.put n0 n1 n2 n3) = (none, Sr73.say (-22)) from if_pos bad)
    exact told_end q ho (e1.trans e5) ⟨p, rfl, none_back e1 np, hp⟩ (by rw [es]) (by rw [es]; rfl)
  have g1 : Sr73.okF n0 n1 = true := by
    revert cc
    cases Sr73.okF n0 n1 <;> cases Sr73.okF n2 n3 <;> simp
  have g2 : Sr73.okF n2 n3 = true := by
    revert cc
    cases Sr73.okF n0 n1 <;> cases Sr73.okF n2 n3 <;> simp
  have ok1 : ¬ (Sr73.okF n0 n1 = false ∨ Sr73.okF n2 n3 = false) := by rw [g1, g2]; simp
  obtain ⟨d, rfl, hd, nx, sx⟩ := okF_sz g1
  obtain ⟨d', rfl, hd', ny, sy⟩ := okF_sz g2
  unfold tNext
  dsimp only
  refine sp_asg (ep_call (n0, (d : Int)) (show (d : Int) ≠ 0 by omega) (ea_c (x0 e1 rfl) (mo_is _) (ea_c (x1 e1 rfl) (mo_is _) ea_n))) fun vx H2 e2 hx => ?_
  have e02 := e1.trans e2
  dsimp only
  refine sp_asg (ep_call (n2, (d' : Int)) (show (d' : Int) ≠ 0 by omega) (ea_c (x2 e02 rfl) (mo_is _) (ea_c (x3 e02 rfl) (mo_is _) ea_n))) fun vy H3 e3 hy => ?_
  have e03 := e02.trans e3
  have hx : Fr K (frac n0 d) vx H2 := by rw [← fracI_nat]; exact hx
  have hy : Fr K (frac n2 d') vy H3 := by rw [← fracI_nat]; exact hy
  have ho3 := ho.mono e03
  dsimp only
  have call := ep_callN (K := K) (Pre := fun a : List Frac × Frac × Frac => WpOk a.1 a.2.1 a.2.2) (A := fun a => AC (FrL K a.1) (AC (Fr K a.2.1) (AC (Fr K a.2.2) A0))) (g := fun a => wp a.1 a.2.1 a.2.2)
    (σ := [some (.ref a), some (.ref ln), some (.ref lr), some vx, some vy]) (H := H3) (s.m, frac n0 d, frac n2 d') (wp_ok hg nx ny sx sy (by decide)) (ea_c (ep_means (ep_v (i := 0) rfl) ho3) mo_frl (ea_c (ep_var (i := 3) rfl (mo_fr _ _ _ e3 hx) mo_fr) mo_fr (ea_c (ep_var (i := 4) rfl hy mo_fr) mo_fr ea_n)))
  refine ⟨_, rfl, call.run fun vc H4 e4 hc => ?_⟩
  obtain ⟨lc, us, rfl, nc, hlc, fsc⟩ := hc
  have e04 := e03.trans e4
  have em : (Sr73.put s (frac n0 d) (frac n2 d')).m = wp s.m (frac n0 d) (frac n2 d') := put_is nx ny hg.len
  have est : ({ s with m := wp s.m (frac n0 d) (frac n2 d') } : Sr73.Means) = Sr73.put s (frac n0 d) (frac n2 d') := by rw [← em]; rfl
  have esm : Sr73.small (Sr73.put s (frac n0 d) (frac n2 d')) = !((wp s.m (frac n0 d) (frac n2 d')).any long) := by rw [small_long, em]
  refine ⟨a, l, lc, s, wp s.m (frac n0 d) (frac n2 d'), rfl, ho.mono e04, ⟨lc, us, rfl, hlc, fsc⟩, fun hlong H5 e5 => ⟨_, rfl, ite_t rfl ?_⟩, fun hshort H5 dx e5 hdx => ⟨_, rfl, ite_f rfl ?_⟩⟩
  · have es := step_none nb (show Sr73.doing s (.put n0 d n2 d') = (none, Sr73.say (-75)) by
      refine (if_neg ok1).trans ?_
      rw [Int.toNat_natCast, Int.toNat_natCast]
      refine if_pos ?_
      rw [esm, hlong]
      rfl)
    refine sp_ret (ep_lstI (ea_i (ep_cR (v := .int (-75)) fun _ => rfl) ea_in) (by simp)) fun v H6 e6 hv => ?_
    exact told_end q ho ((e04.trans e5).trans e6) (in_back (e04.trans e5) hv) (by rw [es]) (by rw [es]; rfl)
  · have es := step_some nb (show Sr73.doing s (.put n0 d n2 d') = (some (Sr73.put s (frac n0 d) (frac n2 d')), Sr73.say 0) by
      refine (if_neg ok1).trans ?_
      rw [Int.toNat_natCast, Int.toNat_natCast]
      refine if_neg ?_
      rw [esm, hshort]
      simp)
    dsimp only
    refine sp_ret (ep_lstI (ea_i ep_c ea_in) (by simp)) fun v H6 e6 hv => ?_
    exact keep_end q (e04.trans e5) (none_back e03 nc) (e5 _ _ hlc) (fsc.mono e5) hdx e6 hv (by rw [es]; exact congrArg some est.symm) (by rw [es]; rfl)
end
end Sm


/-! # The calls' defs, the third part -/
namespace Sm
open PySem PySem.Spec PyProof.Rows L2 Evl
open Sr58 (Frac frac plus times whole)
open Sr66 (minus over zero neg)
section
variable {P : Program} {w : World} {K : PySem.W.Frag} {mg : Str → Option Value} {base : Heap}
def ok_move_ : Sr73.State → List Int → List Int → Sr73.Call → Prop := fun st ns _ c => ∃ s a b, st = some s ∧ ns = [a, b] ∧ c = .move a b
theorem ok_move (T : Txt K mg) (B : Bs P base) : FnOk P w K mg base CX0 47 T.move.f T.move.fd ["spread", "numbers", "row"] (spC T ok_move_) := by
  refine ok_spC T.move sc_move fun cdv Ar outer s0 H Q E a l ln lr ns row z c hr ho hn hw hg hc q => ?_
  obtain ⟨s, n0, n1, rfl, rfl, rfl⟩ := hc
  have hg : Good s := hg
  have nb : ∀ k, Sr73.Call.move n0 n1 ≠ .begin_ k := fun k z => by cases z
  refine ⟨_, (pss_cons (ps_if (pt_not (pt_val (pe_df T.is_small_fraction (ok_is_small_fraction T B) hr (pa_cons (pe_ix ix_list (pv 1) pe_int (fun _ _ => rfl)) (pa_cons (pe_ix ix_list (pv 1) pe_int (fun _ _ => rfl)) pa_nil))))) (pss_one (ps_ret (pe_lst (pa_cons (pe_glob (by rfl) T.NOT_TAKEN.g T.NOT_TAKEN.r) pa_nil)))) pss_nil)
      (pss_cons (ps_if (pt_not (pt_val (pe_df T.keep_unless_long (ok_keep_unless_long T B) hr (pa_cons (pv 0) (pa_cons (pe_df T.moved (ok_moved T B) hr (pa_cons (pe_fld (pv 0) (by rfl)) (pa_cons (pe_df T.fraction (ok_fraction T B) hr (pa_cons (pe_ix ix_list (pv 1) pe_int (fun _ _ => rfl)) (pa_cons (pe_ix ix_list (pv 1) pe_int (fun _ _ => rfl)) pa_nil))) pa_nil))) pa_nil))))) (pss_one (ps_ret (pe_lst (pa_cons (pe_glob (by rfl) T.TOO_LONG.g T.TOO_LONG.r) pa_nil)))) pss_nil)
      (pss_one (ps_ret (pe_lst (pa_cons pe_int pa_nil)))))), ?_⟩
  have vN : ∀ {H1 : Hp} {σ : L2.St}, Ex H H1 → σ[1]? = some (some (.ref ln)) → EvP (tVar 1) σ H1 (IL [n0, n1]) := fun e h => ep_var h ⟨ln, rfl, e _ _ hn⟩ mo_il
  have x0 : ∀ {H1 : Hp} {σ : L2.St}, Ex H H1 → σ[1]? = some (some (.ref ln)) → EvP (tOp (rIxL K) (tVar 1) (tC (.int 0))) σ H1 (Is (.int n0)) := fun e h => ep_ixI (K := K) (i := 0) (vN e h) ep_c rfl
  have x1 : ∀ {H1 : Hp} {σ : L2.St}, Ex H H1 → σ[1]? = some (some (.ref ln)) → EvP (tOp (rIxL K) (tVar 1) (tC (.int 1))) σ H1 (Is (.int n1)) := fun e h => ep_ixI (K := K) (i := 1) (vN e h) ep_c rfl
  refine sp_if (et_not' (et_b (ep_call (n0, n1) trivial (ea_c (x0 (Ex.refl _) rfl) (mo_is _) (ea_c (x1 (Ex.refl _) rfl) (mo_is _) ea_n))))) (fun cc H1 e1 => ?_) fun cc H1 e1 => ?_
  · have bad : Sr73.okF n0 n1 = false := by simpa using cc
    refine sp_ret (ep_lstI (ea_i (ep_cR (v := .int (-22)) fun _ => rfl) ea_in) (by simp)) fun v H5 e5 hv => ?_
    obtain ⟨p, rfl, np, hp⟩ := hv
    have es := step_none nb (show Sr73.doing s (.move n0 n1) = (none, Sr73.say (-22)) from if_pos bad)
    exact told_end q ho (e1.trans e5) ⟨p, rfl, none_back e1 np, hp⟩ (by rw [es]) (by rw [es]; rfl)
  have g1 : Sr73.okF n0 n1 = true := by simpa using cc
  have ok1 : ¬ (Sr73.okF n0 n1 = false) := by rw [g1]; simp
  obtain ⟨d, rfl, hd, nx, sx⟩ := okF_sz g1
  unfold tNext
  dsimp only
  have ho1 := ho.mono e1
  have fc : EvP (tCall (sp_fraction K) [] E0 (tCons (tOp (rIxL K) (tVar 1) (tC (.int 0))) (tCons (tOp (rIxL K) (tVar 1) (tC (.int 1))) tNil))) [some (.ref a), some (.ref ln), some (.ref lr)] H1 (Fr K (frac n0 d)) := by
    rw [← fracI_nat]
    exact ep_call (n0, (d : Int)) (show (d : Int) ≠ 0 by omega) (ea_c (x0 e1 rfl) (mo_is _) (ea_c (x1 e1 rfl) (mo_is _) ea_n))
  have call := ep_callN (K := K) (Pre := fun a : List Frac × Frac => MvOk a.1 a.2) (A := fun a => AC (FrL K a.1) (AC (Fr K a.2) A0)) (g := fun a => mvd a.1 a.2)
    (σ := [some (.ref a), some (.ref ln), some (.ref lr)]) (H := H1) (s.m, frac n0 d) (mv_ok hg nx sx) (ea_c (ep_means (ep_v (i := 0) rfl) ho1) mo_frl (ea_c fc mo_fr ea_n))
  refine ⟨_, rfl, call.run fun vc H4 e4 hc => ?_⟩
  obtain ⟨lc, us, rfl, nc, hlc, fsc⟩ := hc
  have e04 := e1.trans e4
  have em : (Sr73.moved s (frac n0 d)).m = mvd s.m (frac n0 d) := moved_is hg.nf nx hg.len
  have est : ({ s with m := mvd s.m (frac n0 d) } : Sr73.Means) = Sr73.moved s (frac n0 d) := by rw [← em]; rfl
  have esm : Sr73.small (Sr73.moved s (frac n0 d)) = !((mvd s.m (frac n0 d)).any long) := by rw [small_long, em]
  refine ⟨a, l, lc, s, mvd s.m (frac n0 d), rfl, ho.mono e04, ⟨lc, us, rfl, hlc, fsc⟩, fun hlong H5 e5 => ⟨_, rfl, ite_t rfl ?_⟩, fun hshort H5 dx e5 hdx => ⟨_, rfl, ite_f rfl ?_⟩⟩
  · have es := step_none nb (show Sr73.doing s (.move n0 d) = (none, Sr73.say (-75)) by
      refine (if_neg ok1).trans ?_
      rw [Int.toNat_natCast]
      refine if_pos ?_
      rw [esm, hlong]
      rfl)
    refine sp_ret (ep_lstI (ea_i (ep_cR (v := .int (-75)) fun _ => rfl) ea_in) (by simp)) fun v H6 e6 hv => ?_
    exact told_end q ho ((e04.trans e5).trans e6) (in_back (e04.trans e5) hv) (by rw [es]) (by rw [es]; rfl)
  · have es := step_some nb (show Sr73.doing s (.move n0 d) = (some (Sr73.moved s (frac n0 d)), Sr73.say 0) by
      refine (if_neg ok1).trans ?_
      rw [Int.toNat_natCast]
      refine if_neg ?_
      rw [esm, hshort]
      simp)
    dsimp only
    refine sp_ret (ep_lstI (ea_i ep_c ea_in) (by simp)) fun v H6 e6 hv => ?_
    exact keep_end q (e04.trans e5) (none_back e1 nc) (e5 _ _ hlc) (fsc.mono e5) hdx e6 hv (by rw [es]; exact congrArg some est.symm) (by rw [es]; rfl)
def ok_means_ : Sr73.State → List Int → List Int → Sr73.Call → Prop := fun st _ _ c => ∃ s, st = some s ∧ c = .means
theorem ok_tell_means (T : Txt K mg) (B : Bs P base) : FnOk P w K mg base CX0 46 T.tell_means.f T.tell_means.fd ["spread", "numbers", "row"] (spC T ok_means_) := by
  refine ok_spC T.tell_means sc_tell_means fun cdv Ar outer s0 H Q E a l ln lr ns row z c hr ho hn hw hg hc q => ?_
  obtain ⟨s, rfl, rfl⟩ := hc
  have hg : Good s := hg
  have nb : ∀ k, Sr73.Call.means ≠ .begin_ k := fun k z => by cases z
  have es := step_none nb (show Sr73.doing s .means = (none, Sr73.tells s.m) from rfl)
  refine ⟨_, (pss_one (ps_ret (pe_df T.with_fractions (ok_with_fractions T B) hr (pa_cons (pe_callB call_len_seq (by rfl) T.len (by decide +kernel) (pa_cons (pe_fld (pv 0) (by rfl)) pa_nil)) (pa_cons (pe_fld (pv 0) (by rfl)) pa_nil))))), ?_⟩
  have hl9 : s.m.length ≤ 1000 := by have := hg.len; have := hg.k4; omega
  refine sp_ret (ep_wf (ep_lenF (K := K) (ep_means (ep_v rfl) ho)) (ep_means (ep_v rfl) ho) hl9) fun v H1 e1 hv => ?_
  exact told_end q ho e1 hv (by rw [es]) (by rw [es]; rfl)
def ok_mean_ : Sr73.State → List Int → List Int → Sr73.Call → Prop := fun st _ row c => ∃ s, st = some s ∧ c = .mean row ∧ row.length ≤ 1000
theorem ok_tell_mean (T : Txt K mg) (B : Bs P base) : FnOk P w K mg base CX0 46 T.tell_mean.f T.tell_mean.fd ["spread", "numbers", "row"] (spC T ok_mean_) := by
  refine ok_spC T.tell_mean sc_tell_mean fun cdv Ar outer s0 H Q E a l ln lr ns row z c hr ho hn hw hg hc q => ?_
  obtain ⟨s, rfl, rfl, h1000⟩ := hc
  have hg : Good s := hg
  have nb : ∀ k, Sr73.Call.mean row ≠ .begin_ k := fun k z => by cases z
  refine ⟨_, (pss_cons (ps_if (pt_not (pt_val (pe_df T.is_small_polynomial (ok_is_small_polynomial T B) hr (pa_cons (pv 2) (pa_cons (pe_callB call_len_seq (by rfl) T.len (by decide +kernel) (pa_cons (pe_fld (pv 0) (by rfl)) pa_nil)) pa_nil))))) (pss_one (ps_ret (pe_lst (pa_cons (pe_glob (by rfl) T.NOT_TAKEN.g T.NOT_TAKEN.r) pa_nil)))) pss_nil)
      (pss_one (ps_ret (pe_df T.with_fractions (ok_with_fractions T B) hr (pa_cons pe_int (pa_cons (pe_lst (pa_cons (pe_df T.mean_of (ok_mean_of T B) hr (pa_cons (pe_df T.whole_factors (ok_whole_factors T B) hr (pa_cons (pv 2) pa_nil)) (pa_cons (pe_fld (pv 0) (by rfl)) pa_nil))) pa_nil)) pa_nil)))))), ?_⟩
  have vR : ∀ {H1 : Hp} {σ : L2.St}, Ex H H1 → σ[2]? = some (some (.ref lr)) → EvP (tVar 2) σ H1 (IL row) := fun e h => ep_var h ⟨lr, rfl, e _ _ hw⟩ mo_il
  have hl := hg.len
  refine sp_if (et_not' (et_b (ep_call (row, s.m.length) h1000 (ea_c (vR (Ex.refl _) rfl) mo_il (ea_c (ep_lenF (K := K) (ep_means (ep_v rfl) ho)) (mo_is _) ea_n))))) (fun cc H1 e1 => ?_) fun cc H1 e1 => ?_
  · have bad := okP_false (show okP row s.m.length = false by simpa using cc)
    rw [hl] at bad
    have es := step_none nb (show Sr73.doing s (.mean row) = (none, Sr73.say (-22)) from congrArg (Prod.mk none) (if_pos bad))
    refine sp_ret (ep_lstI (ea_i (ep_cR (v := .int (-22)) fun _ => rfl) ea_in) (by simp)) fun v H5 e5 hv => ?_
    exact told_end q ho (e1.trans e5) (in_back e1 hv) (by rw [es]) (by rw [es]; rfl)
  · have good : okP row s.m.length = true := by simpa using cc
    have ok1 := okP_not good
    rw [hl] at ok1
    obtain ⟨hlen, hk⟩ := okP_true good
    have es := step_none nb (show Sr73.doing s (.mean row) = (none, Sr73.tell (Sr73.mean s (row.map whole))) from congrArg (Prod.mk none) (if_neg ok1))
    have ho1 := ho.mono e1
    have hl9 : s.m.length ≤ 9 := by have := hg.len; have := hg.k4; omega
    have mok : MwpOk (row.map whole) 0 s.m := by
      refine mwpOk_of (nf_wholes row) hg.nf (sz_wholes hk) hg.sz (by rw [List.length_map]; omega) (by rw [List.length_map]; omega) ?_
      rw [List.length_map]
      have := Nat.mul_le_mul_right (10 + 200 + 1) (show row.length ≤ 9 by omega)
      omega
    dsimp only
    refine sp_ret (ep_wf ep_c (ep_frl (ep_lst1 (x := mwp (row.map whole) 0 s.m) (ec_mean (ep_frl (ec_whole (vR e1 rfl) h1000)) (ep_means (ep_v rfl) ho1) mok))) (by simp)) fun v H3 e3 hv => ?_
    rw [mean_is hg.nf (nf_wholes row)] at hv
    exact told_end q ho (e1.trans e3) (in_back e1 hv) (by rw [es]) (by rw [es]; rfl)
def ok_square_ : Sr73.State → List Int → List Int → Sr73.Call → Prop := fun st _ row c => ∃ s, st = some s ∧ c = .square row ∧ row.length ≤ 1000
theorem ok_tell_square (T : Txt K mg) (B : Bs P base) : FnOk P w K mg base CX0 46 T.tell_square.f T.tell_square.fd ["spread", "numbers", "row"] (spC T ok_square_) := by
  refine ok_spC T.tell_square sc_tell_square fun cdv Ar outer s0 H Q E a l ln lr ns row z c hr ho hn hw hg hc q => ?_
  obtain ⟨s, rfl, rfl, h1000⟩ := hc
  have hg : Good s := hg
  have nb : ∀ k, Sr73.Call.square row ≠ .begin_ k := fun k z => by cases z
  refine ⟨_, (pss_cons (ps_if (pt_not (pt_val (pe_df T.is_small_polynomial (ok_is_small_polynomial T B) hr (pa_cons (pv 2) (pa_cons (pe_op op_add (pe_fld (pv 0) (by rfl)) pe_int) pa_nil))))) (pss_one (ps_ret (pe_lst (pa_cons (pe_glob (by rfl) T.NOT_TAKEN.g T.NOT_TAKEN.r) pa_nil)))) pss_nil)
      (pss_one (ps_ret (pe_df T.with_fractions (ok_with_fractions T B) hr (pa_cons pe_int (pa_cons (pe_lst (pa_cons (pe_df T.mean_of_square (ok_mean_of_square T B) hr (pa_cons (pe_df T.whole_factors (ok_whole_factors T B) hr (pa_cons (pv 2) pa_nil)) (pa_cons (pe_fld (pv 0) (by rfl)) pa_nil))) pa_nil)) pa_nil)))))), ?_⟩
  have vR : ∀ {H1 : Hp} {σ : L2.St}, Ex H H1 → σ[2]? = some (some (.ref lr)) → EvP (tVar 2) σ H1 (IL row) := fun e h => ep_var h ⟨lr, rfl, e _ _ hw⟩ mo_il
  have hl := hg.len
  have k4 := hg.k4
  have ek : (s.k : Int) + 1 = ((s.k + 1 : Nat) : Int) := by push_cast; rfl
  refine sp_if (et_not' (et_b (ep_call (row, s.k + 1) h1000 (ea_c (vR (Ex.refl _) rfl) mo_il (ea_c ((ep_add (ep_kk (ep_v rfl) ho) ep_c).to (by rw [ek])) (mo_is _) ea_n))))) (fun cc H1 e1 => ?_) fun cc H1 e1 => ?_
  · have bad := okP_false (show okP row (s.k + 1) = false by simpa using cc)
    have es := step_none nb (show Sr73.doing s (.square row) = (none, Sr73.say (-22)) from congrArg (Prod.mk none) (if_pos bad))
    refine sp_ret (ep_lstI (ea_i (ep_cR (v := .int (-22)) fun _ => rfl) ea_in) (by simp)) fun v H5 e5 hv => ?_
    exact told_end q ho (e1.trans e5) (in_back e1 hv) (by rw [es]) (by rw [es]; rfl)
  · have good : okP row (s.k + 1) = true := by simpa using cc
    have ok1 := okP_not good
    obtain ⟨hlen, hk⟩ := okP_true good
    have es := step_none nb (show Sr73.doing s (.square row) = (none, Sr73.tell (Sr73.mean s (Sr73.mul (row.map whole) (row.map whole)))) from congrArg (Prod.mk none) (if_neg ok1))
    have ho1 := ho.mono e1
    have mok : MsqOk (row.map whole) s.m := by
      refine msqOk_of (nf_wholes row) hg.nf (sz_wholes hk) hg.sz (by rw [List.length_map]; omega) (by rw [List.length_map]; omega) ?_
      rw [List.length_map]
      have h5 : row.length ≤ 5 := by omega
      have h1 := Nat.mul_le_mul_right (10 + 200 + 1) h5
      have h2 := Nat.mul_le_mul h5 (show 10 + (1 + row.length * (10 + 200 + 1)) + 1 ≤ 2000 by omega)
      omega
    dsimp only
    refine sp_ret (ep_wf ep_c (ep_frl (ep_lst1 (x := msq (row.map whole) s.m) (ec_msq (ep_frl (ec_whole (vR e1 rfl) h1000)) (ep_means (ep_v rfl) ho1) mok))) (by simp)) fun v H3 e3 hv => ?_
    rw [msq_is hg.nf (nf_wholes row)] at hv
    exact told_end q ho (e1.trans e3) (in_back e1 hv) (by rw [es]) (by rw [es]; rfl)
end
end Sm


/-! # The angles' defs -/
namespace Sm
open PySem PySem.Spec PyProof.Rows L2 Evl
open Sr58 (Frac frac plus times whole)
open Sr66 (minus over zero neg)
/-! ### lists of anything -/
def Al {α : Type} (R : α → PV) (H : Hp) : List V → List α → Prop
  | [], [] => True
  | v :: vs, x :: xs => R x v H ∧ Al R H vs xs
  | _, _ => False
section
variable {α : Type} {R : α → PV} {H H' : Hp}
theorem Al.mono (m : ∀ x, Mo (R x)) (e : Ex H H') : ∀ {vs : List V} {xs : List α}, Al R H vs xs → Al R H' vs xs
  | [], [], _ => trivial
  | _ :: _, x :: _, ⟨h, r⟩ => ⟨m x _ _ _ e h, Al.mono m e r⟩
  | [], _ :: _, h => h.elim
  | _ :: _, [], h => h.elim
theorem Al.imp (m : ∀ x v, R x v H → R x v H') : ∀ {vs : List V} {xs : List α}, Al R H vs xs → Al R H' vs xs
  | [], [], _ => trivial
  | v :: _, x :: _, ⟨h, r⟩ => ⟨m x v h, Al.imp m r⟩
  | [], _ :: _, h => h.elim
  | _ :: _, [], h => h.elim
theorem Al.to {R' : α → PV} (m : ∀ x v, R x v H → R' x v H') : ∀ {vs : List V} {xs : List α}, Al R H vs xs → Al R' H' vs xs
  | [], [], _ => trivial
  | v :: _, x :: _, ⟨h, r⟩ => ⟨m x v h, Al.to m r⟩
  | [], _ :: _, h => h.elim
  | _ :: _, [], h => h.elim
theorem Al.len : ∀ {vs : List V} {xs : List α}, Al R H vs xs → vs.length = xs.length
  | [], [], _ => rfl
  | _ :: _, _ :: _, ⟨_, r⟩ => congrArg (· + 1) (Al.len r)
  | [], _ :: _, h => h.elim
  | _ :: _, [], h => h.elim
theorem Al.at : ∀ {vs : List V} {xs : List α} {i : Nat} {x : α}, Al R H vs xs → xs[i]? = some x → ∃ v, vs[i]? = some v ∧ R x v H
  | v :: _, x :: _, 0, y, ⟨h, _⟩, e => by
    obtain rfl := Option.some.inj e
    exact ⟨v, rfl, h⟩
  | _ :: _, _ :: _, i + 1, y, ⟨_, r⟩, e => Al.at (i := i) r e
  | [], [], _, _, _, e => by simp at e
  | [], _ :: _, _, _, h, _ => h.elim
  | _ :: _, [], _, _, h, _ => h.elim
theorem Al.app : ∀ {vs us : List V} {xs ys : List α}, Al R H vs xs → Al R H us ys → Al R H (vs ++ us) (xs ++ ys)
  | [], _, [], _, _, h => h
  | _ :: _, _, _ :: _, _, ⟨h, r⟩, q => ⟨h, Al.app r q⟩
  | [], _, _ :: _, _, h, _ => h.elim
  | _ :: _, _, [], _, h, _ => h.elim
end
/-- a pair: a polynomial and its square's mean; the polynomial's list isn't at lf -/
def Pr (K : PySem.W.Frag) (lf : Addr) (y : List Frac × Frac) : PV := fun v H => ∃ (t lp : Addr) (z : V) (us : List V), v = .ref t ∧ SqT K H t [.ref lp, z] ∧ lp ≠ lf ∧ H lp = some (.lst us) ∧ Fs K H us y.1 ∧ Fr K y.2 z H
theorem mo_pr {K : PySem.W.Frag} {lf : Addr} {y : List Frac × Frac} : Mo (Pr K lf y) := fun _ _ _ e ⟨t, lp, z, us, h1, h2, h3, h4, h5, h6⟩ => ⟨t, lp, z, us, h1, ex_t e h2, h3, e _ _ h4, h5.mono e, mo_fr _ _ _ e h6⟩
/-- what's found, a list at lf -/
def FdL (K : PySem.W.Frag) (f : List (List Frac × Frac)) : PV := fun v H => ∃ lf vs, v = .ref lf ∧ H lf = some (.lst vs) ∧ Al (Pr K lf) H vs f
theorem mo_fdl {K : PySem.W.Frag} {f : List (List Frac × Frac)} : Mo (FdL K f) := fun _ _ _ e ⟨lf, vs, h1, h2, h3⟩ => ⟨lf, vs, h1, e _ _ h2, h3.mono (fun _ => mo_pr) e⟩
/-- a tuple stays where a list or an instance is changed -/
theorem sqt_upd {K : PySem.W.Frag} {H : Hp} {t l : Addr} {xs : List V} {o o' : HO} (hl : H l = some o) (ho : ∀ ys, o ≠ .tup ys) (ho2 : ∀ b u, o ≠ .frz b u) (h : SqT K H t xs) : SqT K (upd H l o') t xs := by
  have ne : Rd H t (.tup xs) → t ≠ l := fun r z => by
    subst z
    rcases r with r | ⟨b, r⟩
    · rw [hl] at r
      exact ho _ (Option.some.inj r)
    · rw [hl] at r
      exact ho2 _ _ (Option.some.inj r)
  rcases h with r | r
  · have n := ne r
    rcases r with r | ⟨b, r⟩
    · exact .inl (.inl (by rw [upd_ne n]; exact r))
    · exact .inl (.inr ⟨b, by rw [upd_ne n]; exact r⟩)
  · exact .inr r
theorem pr_upd {K : PySem.W.Frag} {H : Hp} {lf : Addr} {y : List Frac × Frac} {v : V} {ys zs : List V} (hl : H lf = some (.lst ys)) (h : Pr K lf y v H) : Pr K lf y v (upd H lf (.lst zs)) := by
  obtain ⟨t, lp, z, us, h1, h2, h3, h4, h5, h6⟩ := h
  exact ⟨t, lp, z, us, h1, sqt_upd hl (fun _ z => by cases z) (fun _ _ z => by cases z) h2, h3, by rw [upd_ne h3]; exact h4, fs_upd hl h5, fr_upd hl h6⟩
theorem pr_updI {K : PySem.W.Frag} {H : Hp} {lf a C dx : Addr} {fs : List (Str × V)} {o : HO} {y : List Frac × Frac} {v : V} (hl : H a = some (.ins C dx fs)) (h : Pr K lf y v H) : Pr K lf y v (upd H a o) := by
  obtain ⟨t, lp, z, us, h1, h2, h3, h4, h5, h6⟩ := h
  have n : lp ≠ a := fun z => by
    rw [z, hl] at h4
    cases h4
  exact ⟨t, lp, z, us, h1, sqt_upd hl (fun _ z => by cases z) (fun _ _ z => by cases z) h2, h3, by rw [upd_ne n]; exact h4, fs_updI hl h5, fr_updI hl h6⟩
/-! ### sizes -/
theorem Good.mb {s : Sr73.Means} (g : Good s) : MB s.m := mb_good g.nf (fun x hx => ⟨Nat.lt_of_lt_of_le (g.sm x hx).1 (by decide), Nat.lt_of_lt_of_le (g.sm x hx).2 (by decide)⟩) (by have := g.len; have := g.k4; omega)
theorem pb_mwpOk {s : Sr73.Means} (g : Good s) {t p : Nat} {q : List Frac} (h : PB t q) (ht : t ≤ 5) (hl : q.length + p ≤ s.m.length) (h5 : q.length ≤ 5) : MwpOk q p s.m := by
  refine mwpOk_of h.nf g.nf h.sz g.sz hl (by omega) ?_
  have := Nat.mul_le_mul h5 (show bz t + 200 + 1 ≤ 250201 by have := bz_le ht; omega)
  omega
theorem pb_szmwp {s : Sr73.Means} (g : Good s) {t p : Nat} {q : List Frac} (h : PB t q) (ht : t ≤ 5) (h5 : q.length ≤ 5) : Sz 1300000 (mwp q p s.m) := by
  refine (sz_mwp h.nf g.nf h.sz g.sz p).mono ?_
  have := Nat.mul_le_mul h5 (show bz t + 200 + 1 ≤ 250201 by have := bz_le ht; omega)
  omega
theorem pb_szmsq {s : Sr73.Means} (g : Good s) {t : Nat} {q : List Frac} (h : PB t q) (ht : t ≤ 5) (h5 : q.length ≤ 5) : Sz 7600000 (msq q s.m) := by
  refine (sz_msqTo h.nf g.nf h.sz g.sz q.length).mono ?_
  have b := bz_le ht
  have h1 := Nat.mul_le_mul h5 (show bz t + 200 + 1 ≤ 250201 by omega)
  have h2 := Nat.mul_le_mul h5 (show bz t + (1 + q.length * (bz t + 200 + 1)) + 1 ≤ 1501007 by omega)
  omega
theorem pb_msqOk {s : Sr73.Means} (g : Good s) {t : Nat} {q : List Frac} (h : PB t q) (ht : t ≤ 5) (h5 : q.length ≤ 5) (hl : 2 * q.length ≤ s.m.length + 1) : MsqOk q s.m := by
  refine msqOk_of h.nf g.nf h.sz g.sz hl (by omega) ?_
  have b := bz_le ht
  have h1 := Nat.mul_le_mul h5 (show bz t + 200 + 1 ≤ 250201 by omega)
  have h2 := Nat.mul_le_mul h5 (show bz t + (1 + q.length * (bz t + 200 + 1)) + 1 ≤ 1501007 by omega)
  omega
section
variable {P : Program} {w : World} {K : PySem.W.Frag} {mg : Str → Option Value} {base : Heap}
structure LfOk (power : Nat) (f : List (List Frac × Frac)) (s : Sr73.Means) : Prop where
  good : Good s
  fnd : Fnd s.m f power
  le : power ≤ s.k
def sp_less_found (K : PySem.W.Frag) : Sp := spN K (fun a : Nat × List (List Frac × Frac) × Sr73.Means => LfOk a.1 a.2.1 a.2.2)
  (fun a => AC (Is (.int (a.1 : Int))) (AC (FdL K a.2.1) (AC (FrL K a.2.2.m) A0))) (fun a => lfd a.1 a.2.1 a.2.2.m)
theorem ok_less_found (T : Txt K mg) (B : Bs P base) : FnOk P w K mg base CX0 45 T.less_found.f T.less_found.fd ["power", "found", "means"] (sp_less_found K) := by
  refine ok_spN T.less_found sc_less_found (fun a vs H h => len3 h) fun cdv Ar outer s0 H Q E a vs hr hp ha q => ?_
  obtain ⟨power, f, s⟩ := a
  obtain ⟨_, _, rfl, rfl, vf, _, rfl, hf, vm, _, rfl, hm, rfl⟩ := ha
  obtain ⟨hg, hfnd, hle⟩ : LfOk power f s := hp
  obtain ⟨lf, vs, rfl, hlf, hal⟩ := hf
  have k4 := hg.k4
  have hmb := hg.mb
  refine ⟨_, (pss_cons (ps_set (i := 3) sc_less_found.nd rfl (Or.inl rfl) (pe_df T.power_alone (ok_power_alone T B) hr (pa_cons (pv 0) pa_nil)))
      (pss_cons (ps_for PassesOwn.never (by rfl) (pi_list (pv 1)) (pg_name (i := 4) sc_less_found.nd rfl (Or.inl rfl)) (pss_cons (ps_set (i := 5) sc_less_found.nd rfl (Or.inl rfl) (pe_df T.divided (ok_divided T B) hr (pa_cons (pe_df T.mean_with_power (ok_mean_with_power T B) hr (pa_cons (pe_ix ix_tup (pv 4) pe_int (fun _ _ => rfl)) (pa_cons (pv 0) (pa_cons (pv 2) pa_nil)))) (pa_cons (pe_ix ix_tup (pv 4) pe_int (fun _ _ => rfl)) pa_nil))))
      (pss_one (ps_set (i := 3) sc_less_found.nd rfl (Or.inl rfl) (pe_df T.less_often (ok_less_often T B) hr (pa_cons (pv 3) (pa_cons (pe_ix ix_tup (pv 4) pe_int (fun _ _ => rfl)) (pa_cons (pv 5) pa_nil))))))))
      (pss_one (ps_ret (pv 3))))), ?_⟩
  have vM : ∀ {H1 : Hp} {σ : L2.St}, Ex H H1 → σ[2]? = some (some vm) → EvP (tVar 2) σ H1 (FrL K s.m) := fun e h => ep_var h (mo_frl _ _ _ e hm) mo_frl
  refine sp_asg (ep_callN power (show power ≤ 1000 by omega) (ea_c (ep_v rfl) (mo_is _) ea_n)) fun v H1 e1 hv => ?_
  refine sp_for_list (K := K) (a := lf) (xs := vs) (ep_v rfl) (fun k σ H' => ∃ vr vo vq, σ = [some (.int (power : Int)), some (.ref lf), some vm, some vr, vo, vq] ∧ Ex H H' ∧ FrN K (lfd power (f.take k) s.m) H vr H' ∧ k ≤ f.length) ?_ ?_ ?_ ?_
  · intro H2 e2
    exact ⟨v, none, none, rfl, e1.trans e2, mo_frn _ _ _ e2 hv, Nat.zero_le _⟩
  · rintro k σ H2 ⟨vr, vo, vq, rfl, e2, _⟩
    exact sq_of (e2 _ _ hlf)
  · rintro k y σ H2 hy ⟨vr, vo, vq, rfl, e2, hvr, hk⟩
    have hk' : k < f.length := by
      rw [← hal.len]
      exact (List.getElem?_eq_some_iff.mp hy).1
    have ef : f[k]? = some f[k] := List.getElem?_eq_getElem hk'
    generalize f[k] = p at ef
    obtain ⟨y', hy', pr⟩ := (hal.mono (fun _ => mo_pr) e2).at ef
    rw [hy] at hy'
    obtain rfl := Option.some.inj hy'
    obtain ⟨t, lp, z, us, rfl, ht, hnf, hlp, hfs, hz⟩ := pr
    obtain ⟨pb, ey, pos, yl⟩ := hfnd.one k p ef
    obtain ⟨rb, rl⟩ := lfd_take hmb hfnd (by omega : power < 8) k (by omega)
    have hk5 : k ≤ 5 := by have := hfnd.len; omega
    have ne : p.2.n ≠ 0 := by omega
    have hlen := hg.len
    have mok : MwpOk p.1 power s.m := pb_mwpOk hg pb hk5 (by omega) (by omega)
    have nmw : Nf (mwp p.1 power s.m) := nf_mwp pb.nf hg.nf power
    have smw : Sz 1300000 (mwp p.1 power s.m) := pb_szmwp hg pb hk5 (by omega)
    have ny : Nf p.2 := by rw [ey]; exact nf_msq pb.nf hg.nf
    have sy : Sz 7600000 p.2 := by rw [ey]; exact pb_szmsq hg pb hk5 (by omega)
    have nov := nf_over nmw ne
    have sov := sz_over nmw ne smw sy
    have bzk := bz_le hk5
    have lok : LoOk (lfd power (f.take k) s.m) p.1 (over (mwp p.1 power s.m) p.2) := loOk_of rb.nf pb.nf nov rb.sz pb.sz sov (by omega) (by omega) (by omega) (by omega)
    have tu : Tu K [.ref lp, z] (.ref t) H2 := ⟨t, rfl, ht⟩
    have x0 : ∀ {H3 : Hp} {σ : L2.St}, Ex H2 H3 → σ[4]? = some (some (.ref t)) → EvP (tOp (rIxT K) (tVar 4) (tC (.int 0))) σ H3 (FrL K p.1) := fun e h => ep_is (ep_ixT (K := K) (ep_var h (mo_tu K _ _ _ _ e tu) (mo_tu K _)) ep_c rfl) (mo_frl _ _ _ e ⟨lp, us, rfl, hlp, hfs⟩) mo_frl
    have x1 : ∀ {H3 : Hp} {σ : L2.St}, Ex H2 H3 → σ[4]? = some (some (.ref t)) → EvP (tOp (rIxT K) (tVar 4) (tC (.int 1))) σ H3 (Fr K p.2) := fun e h => ep_is (ep_ixT (K := K) (ep_var h (mo_tu K _ _ _ _ e tu) (mo_tu K _)) ep_c rfl) (mo_fr _ _ _ e hz) mo_fr
    refine sp_asg (ep_call (mwp p.1 power s.m, p.2) ⟨fi_of nmw smw (by decide), fi_of ny sy (by decide), ne⟩ (ea_c (ep_call (p.1, power, s.m) mok (ea_c (x0 (Ex.refl _) rfl) mo_frl (ea_c (ep_v rfl) (mo_is _) (ea_c (vM e2 rfl) mo_frl ea_n)))) mo_fr (ea_c (x1 (Ex.refl _) rfl) mo_fr ea_n))) fun vo' H3 e3 hvo => ?_
    dsimp only
    refine sp_asg (ep_callN (lfd power (f.take k) s.m, p.1, over (mwp p.1 power s.m) p.2) lok (ea_c (ep_var rfl (frn_l (mo_frn _ _ _ e3 hvr)) mo_frl) mo_frl (ea_c (x0 e3 rfl) mo_frl (ea_c (ep_var rfl hvo mo_fr) mo_fr ea_n)))) fun v4 H4 e4 hv4 => ?_
    refine ⟨v4, _, _, rfl, (e2.trans e3).trans e4, ?_, hk'⟩
    have et : lfd power (f.take (k + 1)) s.m = lo (lfd power (f.take k) s.m) p.1 (over (mwp p.1 power s.m) p.2) := by
      unfold lfd
      rw [List.take_succ, ef, List.foldl_append]
      rfl
    rw [et]
    exact frn_back (e2.trans e3) hv4
  · rintro σ H2 ⟨vr, vo, vq, rfl, e2, hvr, hk⟩
    rw [hal.len, List.take_length] at hvr
    refine sp_ret (ep_v rfl) fun v3 H3 e3 hv3 => ?_
    obtain rfl : v3 = _ := hv3
    exact q _ H3 (e2.trans e3) (mo_frn _ _ _ e3 hvr)
/-- the first power met -/
def met (q : List Frac) (s : Sr73.Means) : Option Nat := (List.range (s.k + 1)).find? fun i => (mwp q i s.m).n != 0
def optV : Option Nat → V
  | none => .non
  | some i => .int (i : Int)
theorem met_none {q : List Frac} {s : Sr73.Means} (h : ∀ i, i < s.k + 1 → (mwp q i s.m).n = 0) : met q s = none := by
  unfold met
  rw [List.find?_eq_none]
  intro i hi
  simp [h i (List.mem_range.mp hi)]
theorem met_some {q : List Frac} {s : Sr73.Means} {i : Nat} (hi : i < s.k + 1) (hn : (mwp q i s.m).n ≠ 0) (h : ∀ i', i' < i → (mwp q i' s.m).n = 0) : met q s = some i := by
  unfold met
  rw [List.find?_range_eq_some]
  exact ⟨by simpa using hn, List.mem_range.mpr hi, fun i' hi' => by simp [h i' hi']⟩
theorem of_met_some {q : List Frac} {s : Sr73.Means} {i : Nat} (h : met q s = some i) : i ≤ s.k ∧ (mwp q i s.m).n ≠ 0 ∧ ∀ i', i' < i → (mwp q i' s.m).n = 0 := by
  obtain ⟨a, b, c⟩ := List.find?_range_eq_some.mp h
  refine ⟨by have := List.mem_range.mp b; omega, by simpa using a, fun i' hi' => ?_⟩
  have := c i' hi'
  simpa using this
theorem of_met_none {q : List Frac} {s : Sr73.Means} (h : met q s = none) : ∀ i, i ≤ s.k → (mwp q i s.m).n = 0 := fun i hi => by
  have := List.find?_eq_none.mp h i (List.mem_range.mpr (by omega))
  simpa using this
structure MnOk (q : List Frac) (s : Sr73.Means) : Prop where
  good : Good s
  mw : ∀ i, i ≤ s.k → MwpOk q i s.m
def sp_first_power_met (K : PySem.W.Frag) : Sp := spF (fun a : List Frac × Sr73.Means => MnOk a.1 a.2)
  (fun a => AC (FrL K a.1) (AC (Is (.int (a.2.k : Int))) (AC (FrL K a.2.m) A0))) (fun a => Is (optV (met a.1 a.2)))
theorem ok_first_power_met (T : Txt K mg) (B : Bs P base) : FnOk P w K mg base CX0 45 T.first_power_met.f T.first_power_met.fd ["factors", "k", "means"] (sp_first_power_met K) := by
  refine ok_spF T.first_power_met sc_first_power_met (fun a vs H h => len3 h) fun cdv Ar outer s0 H Q E a vs hr hp ha q => ?_
  obtain ⟨f, s⟩ := a
  obtain ⟨vf, _, rfl, hf, _, _, rfl, rfl, vm, _, rfl, hm, rfl⟩ := ha
  obtain ⟨hg, mw⟩ : MnOk f s := hp
  have k4 := hg.k4
  refine ⟨_, (pss_cons (ps_for PassesOwn.never (by rfl) (pi_range1 (by rfl) T.range (pa_cons (pe_op op_add (pv 1) pe_int) pa_nil)) (pg_name (i := 3) sc_first_power_met.nd rfl (Or.inl rfl)) (pss_one (ps_if (pt_cmpR op_ne (pe_ix ix_tup (pe_df T.mean_with_power (ok_mean_with_power T B) hr (pa_cons (pv 0) (pa_cons (pv 3) (pa_cons (pv 2) pa_nil)))) pe_int (fun _ _ => rfl)) pe_int (nomark _)) (pss_one (ps_ret (pv 3))) pss_nil)))
      (pss_one (ps_ret pe_non))), ?_⟩
  have e1 : (s.k : Int) + 1 = ((s.k + 1 : Nat) : Int) := by push_cast; rfl
  refine sp_for_range (n := s.k + 1) ((ep_add (ep_v rfl) ep_c).to (by rw [e1])) (by omega) (fun k σ H' => ∃ vi, σ = [some vf, some (.int (s.k : Int)), some vm, vi] ∧ Ex H H' ∧ ∀ i, i < k → (mwp f i s.m).n = 0) ?_ ?_ ?_
  · intro H1 e1
    exact ⟨none, rfl, e1, fun i hi => absurd hi (Nat.not_lt_zero _)⟩
  · rintro k σ H1 hk ⟨vi, rfl, e1, hz⟩
    refine sp_if (et_t (ep_ne (ep_num (K := K) (ec_mwp (ep_var rfl (mo_frl _ _ _ e1 hf) mo_frl) (ep_v rfl) (ep_var rfl (mo_frl _ _ _ e1 hm) mo_frl) (mw k (by omega)))) ep_c)) (fun cc H2 e2 => ?_) fun cc H2 e2 => ?_
    · refine sp_ret (ep_v rfl) fun v H3 e3 hv => q v H3 ((e1.trans e2).trans e3) ?_
      obtain rfl : v = _ := hv
      have h1 : ¬ (mwp f k s.m).n = 0 := by simpa using cc
      show V.int (k : Int) = optV (met f s)
      rw [met_some hk h1 hz]
      rfl
    · refine ⟨_, rfl, e1.trans e2, fun i hi => ?_⟩
      by_cases c : i < k
      · exact hz i c
      · obtain rfl : i = k := by omega
        simpa using cc
  · rintro σ H1 ⟨vi, rfl, e1, hz⟩
    dsimp only
    refine sp_ret ep_c fun v H3 e3 hv => q v H3 (e1.trans e3) ?_
    obtain rfl : v = _ := hv
    show V.non = optV (met f s)
    rw [met_none hz]
    rfl
/-! ### the proof -/
/-- a pair: a polynomial and its square's mean -/
def Pq (K : PySem.W.Frag) (y : List Frac × Frac) : PV := fun v H => ∃ (t lp : Addr) (z : V) (us : List V), v = .ref t ∧ SqT K H t [.ref lp, z] ∧ H lp = some (.lst us) ∧ Fs K H us y.1 ∧ Fr K y.2 z H
theorem mo_pq {y : List Frac × Frac} : Mo (Pq K y) := fun _ _ _ e ⟨t, lp, z, us, h1, h2, h4, h5, h6⟩ => ⟨t, lp, z, us, h1, ex_t e h2, e _ _ h4, h5.mono e, mo_fr _ _ _ e h6⟩
theorem pr_pq {lf : Addr} {y : List Frac × Frac} {v : V} {H : Hp} (h : Pr K lf y v H) : Pq K y v H := by
  obtain ⟨t, lp, z, us, h1, h2, h3, h4, h5, h6⟩ := h
  exact ⟨t, lp, z, us, h1, h2, h4, h5, h6⟩
/-- a pair, or none -/
def POp (K : PySem.W.Frag) : Option (List Frac × Frac) → PV
  | none => Is .non
  | some y => Pq K y
theorem mo_pop {o : Option (List Frac × Frac)} : Mo (POp K o) := by
  cases o with
  | none => exact mo_is _
  | some y => exact mo_pq
theorem pop_none {o : Option (List Frac × Frac)} {v : V} {H : Hp} (h : POp K o v H) : decide (v = .non) = o.isNone := by
  cases o with
  | none =>
    obtain rfl : v = _ := h
    rfl
  | some y =>
    obtain ⟨t, lp, z, us, rfl, _⟩ := h
    rfl
theorem ep_pair {σ : L2.St} {H : Hp} {ta tb : TE} {p : List Frac} {x : Frac} (ha : EvP ta σ H (FrL K p)) (hb : EvP tb σ H (Fr K x)) : EvP (tTup (tCons ta (tCons tb tNil))) σ H (Pq K (p, x)) :=
  ep_tup (A := AC (FrL K p) (AC (Fr K x) A0)) (ea_c ha mo_frl (ea_c hb mo_fr ea_n))
    (fun vs H ⟨_, _, e, _, _, _, e2, _, e3⟩ => by
      obtain rfl := e
      obtain rfl := e2
      obtain rfl : _ = [] := e3
      exact Nat.le_trans (by decide : 2 ≤ 100000) (by decide))
    fun t vs H H' ⟨_, _, e, ⟨lp, us, ex, hl, fs⟩, _, _, e2, ey, e3⟩ e4 h => by
      obtain rfl := e
      obtain rfl := e2
      obtain rfl : _ = [] := e3
      obtain rfl := ex
      exact ⟨t, lp, _, us, rfl, st_of h, e4 _ _ hl, fs.mono e4, mo_fr _ _ _ e4 ey⟩
/-- proof_with_power -/
def pwp (i : Nat) (q m : List Frac) : List Frac := lo (Sr73.pow i) q (over (plus (m.getD (2 * i) zero) (whole 1)) (times (whole 2) (mwp q i m)))
structure PwOk (i : Nat) (q : List Frac) (s : Sr73.Means) : Prop where
  good : Good s
  pb : ∃ t, t ≤ 5 ∧ PB t q
  le : q.length ≤ i + 1
  ik : i ≤ s.k
  ne : (mwp q i s.m).n ≠ 0
theorem fr_TWO (T : Txt K mg) (H : Hp) : Fr K (whole 2) (.ref T.TWO.a) H := ⟨_, rfl, T.TWO.t H⟩
theorem sz_two : Sz 2 (whole 2) := ⟨by decide, by decide⟩
theorem two_ne {x : Frac} (hx : Nf x) (h : x.n ≠ 0) : (times (whole 2) x).n ≠ 0 := fun z => by
  have n2 := nf_times (nf_whole 2) hx
  have v2 : val (times (whole 2) x) = 0 := (val_eq_zero n2).mpr z
  rw [val_times (nf_whole 2) hx, val_whole] at v2
  have : val x = 0 := by
    push_cast at v2
    grind
  exact h ((val_eq_zero hx).mp this)
structure PwIn (i : Nat) (q : List Frac) (s : Sr73.Means) : Prop where
  n1 : Nf (plus (s.m.getD (2 * i) zero) (whole 1))
  s1 : Sz 202 (plus (s.m.getD (2 * i) zero) (whole 1))
  nw : Nf (mwp q i s.m)
  sw : Sz 1300000 (mwp q i s.m)
  n2 : Nf (times (whole 2) (mwp q i s.m))
  s2 : Sz 1300002 (times (whole 2) (mwp q i s.m))
  ne2 : (times (whole 2) (mwp q i s.m)).n ≠ 0
  mw : MwpOk q i s.m
  lo : LoOk (Sr73.pow i) q (over (plus (s.m.getD (2 * i) zero) (whole 1)) (times (whole 2) (mwp q i s.m)))
  sq : MsqOk (pwp i q s.m) s.m
theorem PwOk.inn {i : Nat} {q : List Frac} {s : Sr73.Means} (h : PwOk i q s) : PwIn i q s := by
  obtain ⟨hg, ⟨t, ht, pb⟩, le, ik, ne⟩ := h
  have k4 := hg.k4
  have hl := hg.len
  have bzt := bz_le ht
  have n1 := nf_plus (nf_getD hg.nf (2 * i)) (nf_whole 1)
  have s1 : Sz 202 (plus (s.m.getD (2 * i) zero) (whole 1)) := sz_plus (nf_getD hg.nf (2 * i)) (nf_whole 1) (hg.sz _) sz_one
  have nw := nf_mwp pb.nf hg.nf i
  have sw := pb_szmwp hg (p := i) pb ht (by omega)
  have n2 := nf_times (nf_whole 2) nw
  have s2 : Sz 1300002 (times (whole 2) (mwp q i s.m)) := (sz_times (nf_whole 2) nw sz_two sw).mono (by decide)
  have ne2 := two_ne nw ne
  have no := nf_over n1 ne2
  have so := sz_over n1 ne2 s1 s2
  have spw : SzL 1 (Sr73.pow i) := by
    have := (pb_pow i).sz
    exact this
  have hle : q.length ≤ (Sr73.pow i).length := by rw [len_pow]; exact le
  have okl : LoOk (Sr73.pow i) q (over (plus (s.m.getD (2 * i) zero) (whole 1)) (times (whole 2) (mwp q i s.m))) :=
    loOk_of (nf_pow i) pb.nf no spw pb.sz so (by rw [len_pow]; omega) hle (by decide) (by omega)
  refine ⟨n1, s1, nw, sw, n2, s2, ne2, pb_mwpOk hg pb ht (by omega) (by omega), okl, ?_⟩
  have slo := szl_lo (nf_pow i) pb.nf no hle spw pb.sz so
  have sz : SzL 1550206 (pwp i q s.m) := fun l => (slo l).mono (by omega)
  have ll : (pwp i q s.m).length = i + 1 := (len_lo _ _ _).trans (len_pow i)
  refine msqOk_of (nf_lo (nf_pow i) pb.nf no hle) hg.nf sz hg.sz (by omega) (by omega) ?_
  have h5 : (pwp i q s.m).length ≤ 5 := by omega
  have h1 := Nat.mul_le_mul_right (1550206 + 200 + 1) h5
  have h2 := Nat.mul_le_mul h5 (show 1550206 + (1 + (pwp i q s.m).length * (1550206 + 200 + 1)) + 1 ≤ 9302300 by omega)
  omega
def sp_proof_with_power (K : PySem.W.Frag) : Sp := spF (fun a : Nat × List Frac × Sr73.Means => PwOk a.1 a.2.1 a.2.2)
  (fun a => AC (Is (.int (a.1 : Int))) (AC (FrL K a.2.1) (AC (FrL K a.2.2.m) A0))) (fun a => Pq K (pwp a.1 a.2.1 a.2.2.m, msq (pwp a.1 a.2.1 a.2.2.m) a.2.2.m))
theorem ok_proof_with_power (T : Txt K mg) (B : Bs P base) : FnOk P w K mg base CX0 46 T.proof_with_power.f T.proof_with_power.fd ["power", "rest", "means"] (sp_proof_with_power K) := by
  refine ok_spF T.proof_with_power sc_proof_with_power (fun a vs H h => len3 h) fun cdv Ar outer s0 H Q E a vs hr hp ha q => ?_
  obtain ⟨i, f, s⟩ := a
  obtain ⟨_, _, rfl, rfl, vf, _, rfl, hf, vm, _, rfl, hm, rfl⟩ := ha
  have hp : PwOk i f s := hp
  obtain ⟨n1, s1, nw, sw, n2, s2, ne2, mw, okl, oks⟩ := hp.inn
  have hg := hp.good
  have k4 := hg.k4
  have hl := hg.len
  have ik := hp.ik
  refine ⟨_, (pss_cons (ps_set (i := 3) sc_proof_with_power.nd rfl (Or.inl rfl) (pe_df T.divided (ok_divided T B) hr (pa_cons (pe_df T.plus (ok_plus T B) hr (pa_cons (pe_ix ix_list (pv 2) (pe_op op_mulA pe_int (pv 0)) (fun _ _ => rfl)) (pa_cons (pe_glob (by rfl) T.ONE.g T.ONE.r) pa_nil))) (pa_cons (pe_df T.times (ok_times T B) hr (pa_cons (pe_glob (by rfl) T.TWO.g T.TWO.r) (pa_cons (pe_df T.mean_with_power (ok_mean_with_power T B) hr (pa_cons (pv 1) (pa_cons (pv 0) (pa_cons (pv 2) pa_nil)))) pa_nil))) pa_nil))))
      (pss_cons (ps_set (i := 4) sc_proof_with_power.nd rfl (Or.inl rfl) (pe_df T.less_often (ok_less_often T B) hr (pa_cons (pe_df T.power_alone (ok_power_alone T B) hr (pa_cons (pv 0) pa_nil)) (pa_cons (pv 1) (pa_cons (pv 3) pa_nil)))))
      (pss_one (ps_ret (pe_tup (pa_cons (pv 4) (pa_cons (pe_df T.mean_of_square (ok_mean_of_square T B) hr (pa_cons (pv 4) (pa_cons (pv 2) pa_nil))) pa_nil))))))), ?_⟩
  have vF : ∀ {H1 : Hp} {σ : L2.St}, Ex H H1 → σ[1]? = some (some vf) → EvP (tVar 1) σ H1 (FrL K f) := fun e h => ep_var h (mo_frl _ _ _ e hf) mo_frl
  have vM : ∀ {H1 : Hp} {σ : L2.St}, Ex H H1 → σ[2]? = some (some vm) → EvP (tVar 2) σ H1 (FrL K s.m) := fun e h => ep_var h (mo_frl _ _ _ e hm) mo_frl
  have e2i : (2 : Int) * (i : Int) = ((2 * i : Nat) : Int) := by push_cast; rfl
  have fi1 : Fit (2 : Int) := fit_small (by decide)
  have fi2 : Fit (i : Int) := fit_small (by rw [Int.natAbs_natCast]; exact Nat.lt_of_le_of_lt (show i ≤ 4 by omega) (by decide))
  refine sp_asg (ec_div (ec_plus (ep_ixF (vM (Ex.refl _) rfl) ((ep_mul ep_c (ep_v rfl) fi1 fi2).to (by rw [e2i])) (by omega)) (ep_cR (fr_ONE T)) (fi_of (nf_getD hg.nf _) (hg.sz _) (by decide)) (fi_of (nf_whole 1) sz_one (by decide)))
    (ec_times (ep_cR (fr_TWO T)) (ec_mwp (vF (Ex.refl _) rfl) (ep_v rfl) (vM (Ex.refl _) rfl) mw) (fi_of (nf_whole 2) sz_two (by decide)) (fi_of nw sw (by decide))) (fi_of n1 s1 (by decide)) (fi_of n2 s2 (by decide)) ne2) fun vo H1 e1 ho => ?_
  dsimp only
  refine sp_asg (ec_lo (ep_frl (ec_pow (ep_v rfl) (by omega))) (vF e1 rfl) (ep_var rfl ho mo_fr) okl) fun vp H2 e2 hvp => ?_
  have hvp : FrL K (pwp i f s.m) vp H2 := frn_l hvp
  dsimp only
  refine sp_ret (ep_pair (ep_var rfl hvp mo_frl) (ec_msq (ep_var rfl hvp mo_frl) (vM (e1.trans e2) rfl) oks)) fun v H3 e3 hv => q v H3 ((e1.trans e2).trans e3) hv
/-- proof_from -/
def prf (q : List Frac) (s : Sr73.Means) : Option (List Frac × Frac) := if (msq q s.m).n < 0 then some (q, msq q s.m) else match met q s with
  | none => none
  | some i => some (pwp i q s.m, msq (pwp i q s.m) s.m)
structure PfOk (q : List Frac) (s : Sr73.Means) : Prop where
  good : Good s
  mn : MnOk q s
  pw : ∀ i, met q s = some i → PwOk i q s
def sp_proof_from (K : PySem.W.Frag) : Sp := spF (fun a : List Frac × Sr73.Means => PfOk a.1 a.2)
  (fun a => AC (FrL K a.1) (AC (Fr K (msq a.1 a.2.m)) (AC (Is (.int (a.2.k : Int))) (AC (FrL K a.2.m) A0)))) (fun a => POp K (prf a.1 a.2))
theorem ok_proof_from (T : Txt K mg) (B : Bs P base) : FnOk P w K mg base CX0 47 T.proof_from.f T.proof_from.fd ["rest", "size", "k", "means"] (sp_proof_from K) := by
  refine ok_spF T.proof_from sc_proof_from (fun a vs H h => ?_) fun cdv Ar outer s0 H Q E a vs hr hp ha q => ?_
  · obtain ⟨_, _, rfl, _, _, _, rfl, _, _, _, rfl, _, _, _, rfl, _, rfl⟩ := h
    rfl
  obtain ⟨f, s⟩ := a
  obtain ⟨vf, _, rfl, hf, vz, _, rfl, hz, _, _, rfl, rfl, vm, _, rfl, hm, rfl⟩ := ha
  obtain ⟨hg, mn, pw⟩ : PfOk f s := hp
  have hz : Fr K (msq f s.m) vz H := hz
  refine ⟨_, (pss_cons (ps_if (pt_cmpR op_lt (pe_ix ix_tup (pv 1) pe_int (fun _ _ => rfl)) pe_int (nomark _)) (pss_one (ps_ret (pe_tup (pa_cons (pv 0) (pa_cons (pv 1) pa_nil))))) pss_nil)
      (pss_cons (ps_set (i := 4) sc_proof_from.nd rfl (Or.inl rfl) (pe_df T.first_power_met (ok_first_power_met T B) hr (pa_cons (pv 0) (pa_cons (pv 2) (pa_cons (pv 3) pa_nil)))))
      (pss_cons (ps_if (pt_cmpR op_isN (pv 4) pe_non (nomark _)) (pss_one (ps_ret pe_non)) pss_nil)
      (pss_one (ps_ret (pe_df T.proof_with_power (ok_proof_with_power T B) hr (pa_cons (pv 4) (pa_cons (pv 0) (pa_cons (pv 3) pa_nil))))))))), ?_⟩
  have vF : ∀ {H1 : Hp} {σ : L2.St}, Ex H H1 → σ[0]? = some (some vf) → EvP (tVar 0) σ H1 (FrL K f) := fun e h => ep_var h (mo_frl _ _ _ e hf) mo_frl
  have vM : ∀ {H1 : Hp} {σ : L2.St}, Ex H H1 → σ[3]? = some (some vm) → EvP (tVar 3) σ H1 (FrL K s.m) := fun e h => ep_var h (mo_frl _ _ _ e hm) mo_frl
  have vZ : ∀ {H1 : Hp} {σ : L2.St}, Ex H H1 → σ[1]? = some (some vz) → EvP (tVar 1) σ H1 (Fr K (msq f s.m)) := fun e h => ep_var h (mo_fr _ _ _ e hz) mo_fr
  refine sp_if (et_t (ep_lt (ep_num (K := K) (vZ (Ex.refl _) rfl)) ep_c)) (fun cc H1 e1 => ?_) fun cc H1 e1 => ?_
  · have neg : (msq f s.m).n < 0 := of_decide_eq_true cc
    refine sp_ret (ep_pair (vF e1 rfl) (vZ e1 rfl)) fun v H2 e2 hv => q v H2 (e1.trans e2) ?_
    show POp K (prf f s) v H2
    unfold prf
    rw [if_pos neg]
    exact hv
  · have nn : ¬ (msq f s.m).n < 0 := of_decide_eq_false cc
    unfold tNext
    dsimp only
    refine sp_asg (ep_call (R := fun a : List Frac × Sr73.Means => Is (optV (met a.1 a.2))) (f, s) mn (ea_c (vF e1 rfl) mo_frl (ea_c (ep_v rfl) (mo_is _) (ea_c (vM e1 rfl) mo_frl ea_n)))) fun v H2 e2 hv => ?_
    obtain rfl : v = _ := hv
    dsimp only
    have e12 := e1.trans e2
    refine sp_if (et_t (ep_isN (ep_v rfl))) (fun c2 H3 e3 => ?_) fun c2 H3 e3 => ?_
    · have c2 : optV (met f s) = .non := of_decide_eq_true c2
      have hmet : met f s = none := by
        cases h : met f s with
        | none => rfl
        | some i => rw [h] at c2; cases c2
      refine sp_ret ep_c fun v H4 e4 hv => q v H4 ((e12.trans e3).trans e4) ?_
      show POp K (prf f s) v H4
      unfold prf
      rw [if_neg nn, hmet]
      exact hv
    · have c2 : ¬ optV (met f s) = .non := of_decide_eq_false c2
      cases hmet : met f s with
      | none => rw [hmet] at c2; exact absurd rfl c2
      | some i =>
        dsimp only
        have ev : EvP (tVar 4) [some vf, some vz, some (.int (s.k : Int)), some vm, some (optV (some i))] H3 (Is (.int (i : Int))) := ep_v rfl
        refine sp_ret (ep_call (R := fun a : Nat × List Frac × Sr73.Means => Pq K (pwp a.1 a.2.1 a.2.2.m, msq (pwp a.1 a.2.1 a.2.2.m) a.2.2.m)) (i, f, s) (pw i hmet) (ea_c ev (mo_is _) (ea_c (vF (e12.trans e3) rfl) mo_frl (ea_c (vM (e12.trans e3) rfl) mo_frl ea_n)))) fun v H4 e4 hv => q v H4 ((e12.trans e3).trans e4) ?_
        show POp K (prf f s) v H4
        unfold prf
        rw [if_neg nn, hmet]
        exact hv
/-! ### at_right_angles -/
def aF (lf : Addr) (v : V) : List (Str × V) := [("found", .ref lf), ("proof", v)]
theorem aF_found (lf : Addr) (v : V) : (aF lf v).lookup ("found" : Str) = some (.ref lf) := lk_here
theorem aF_proof (lf : Addr) (v : V) : (aF lf v).lookup ("proof" : Str) = some v := (lk_past (by decide +kernel)).trans lk_here
theorem aF_put (lf : Addr) (v v' : V) : putF "proof" v' (aF lf v) = aF lf v' := (put_past (by decide +kernel)).trans (congrArg _ put_here)
def sp_initA (T : Txt K mg) : Sp := fun vs H Q _ => ∃ (p dx : Addr), vs = [.ref p] ∧ H p = some (.ins T.Angles.C dx []) ∧
  ∀ (H' : Hp) (lf : Addr), H lf = none → H' p = some (.ins T.Angles.C dx (aF lf .non)) → H' lf = some (.lst []) → (∀ b o, H b = some o → b ≠ p → H' b = some o) → Q .non H'
theorem sc_Angles_init : FnScope ["self"] ["self"] (defScope i_Angles) := ⟨rfl, rfl, rfl, by decide +kernel, rfl, by decide +kernel, by decide +kernel⟩
theorem ok_Angles_init (T : Txt K mg) : FnOk P w K mg base CX0 1 T.Angles.f T.Angles.fd ["self"] (sp_initA T) := by
  refine T.Angles.F.ok sc_Angles_init (fun vs H Q E h => ?_) (fun cdv Ar outer s0 H vs Q E hr h => ?_)
  · obtain ⟨p, dx, rfl, _⟩ := h
    rfl
  obtain ⟨p, dx, rfl, hp, q⟩ := h
  refine ⟨_, pss_cons (ps_fld (pv 0) (pe_lst pa_nil) (by rfl)) (pss_one (ps_fld (pv 0) pe_non (by rfl))), ?_⟩
  refine sp_fld (K := K) (ep_lstI (ns := []) ea_in (by simp)) (ep_v rfl) hp T.Angles.cl T.nFound (by show 0 < 1000; decide) (fun y H1 e1 hy _ => ?_) mo_in
  obtain ⟨l, rfl, nl, hl⟩ := hy
  dsimp only
  refine sp_fld (K := K) ep_c (ep_v rfl) upd_same T.Angles.cl T.nProof (by show 1 < 1000; decide) (fun y H2 e2 hy _ => ?_) (mo_is _)
  obtain rfl : y = _ := hy
  have ne : l ≠ p := fun z => by
    rw [z, hp] at nl
    cases nl
  refine q _ l nl ?_ ?_ fun b o hb hne => ?_
  · rw [upd_same]
    congr 2
  · rw [upd_ne ne]
    exact e2 _ _ (by rw [upd_ne ne]; exact hl)
  · rw [upd_ne hne]
    exact e2 _ _ (by rw [upd_ne hne]; exact e1 _ _ hb)
/-- the object that at_right_angles gives -/
def AnP (T : Txt K mg) (f : List (List Frac × Frac)) (o : Option (List Frac × Frac)) : PV := fun v H => ∃ (p dx lf : Addr) (vs : List V) (vp : V), v = .ref p ∧ H p = some (.ins T.Angles.C dx (aF lf vp)) ∧ H lf = some (.lst vs) ∧ Al (Pr K lf) H vs f ∧ POp K o vp H
theorem mo_anp {T : Txt K mg} {f : List (List Frac × Frac)} {o : Option (List Frac × Frac)} : Mo (AnP T f o) := fun _ _ _ e ⟨p, dx, lf, vs, vp, h1, h2, h3, h4, h5⟩ => ⟨p, dx, lf, vs, vp, h1, e _ _ h2, e _ _ h3, h4.mono (fun _ => mo_pr) e, mo_pop _ _ _ e h5⟩
/-- the proof with its square's mean -/
def prO (s : Sr73.Means) : Option (List Frac × Frac) := (Sr73.looked s).2.map fun p => (p, msq p s.m)
def sp_at_right_angles (T : Txt K mg) : Sp := spF (fun s : Sr73.Means => Good s) (fun s => AC (Is (.int (s.k : Int))) (AC (FrL K s.m) A0)) (fun s => AnP T (Sr73.looked s).1 (prO s))
theorem ok_at_right_angles (T : Txt K mg) (B : Bs P base) : FnOk P w K mg base CX0 48 T.at_right_angles.f T.at_right_angles.fd ["k", "means"] (sp_at_right_angles T) := by
  refine ok_spF T.at_right_angles sc_at_right_angles (fun a vs H h => len2 h) fun cdv Ar outer s0 H Q E s vs hr hp ha q => ?_
  obtain ⟨_, _, rfl, rfl, vm, _, rfl, hm, rfl⟩ := ha
  have hg : Good s := hp
  have k4 := hg.k4
  have hmb := hg.mb
  have hlen := hg.len
  have h8 : s.k < 8 := by omega
  refine ⟨_, (pss_cons (ps_set (i := 2) sc_at_right_angles.nd rfl (Or.inl rfl) (pe_make0 T.Angles.made (ok_Angles_init T) (hr.mono (by decide)) (by rfl) T.Angles.g T.Angles.b .nil pass0))
      (pss_cons (ps_for PassesOwn.never (by rfl) (pi_range1 (by rfl) T.range (pa_cons (pe_op op_add (pv 0) pe_int) pa_nil)) (pg_name (i := 3) sc_at_right_angles.nd rfl (Or.inl rfl)) (pss_cons (ps_set (i := 4) sc_at_right_angles.nd rfl (Or.inl rfl) (pe_df T.less_found (ok_less_found T B) hr (pa_cons (pv 3) (pa_cons (pe_fld (pv 2) (by rfl)) (pa_cons (pv 1) pa_nil)))))
      (pss_cons (ps_set (i := 5) sc_at_right_angles.nd rfl (Or.inl rfl) (pe_df T.mean_of_square (ok_mean_of_square T B) hr (pa_cons (pv 4) (pa_cons (pv 1) pa_nil))))
      (pss_cons (ps_if (pt_cmpR op_gt (pe_ix ix_tup (pv 5) pe_int (fun _ _ => rfl)) pe_int (nomark _)) (pss_one (ps_expr (pe_bm PySem.F.plainAttrs_list PySem.F.slot_list_append PySem.F.type_list_append mt_append (pe_fld (pv 2) (by rfl)) (pa_cons (pe_tup (pa_cons (pv 4) (pa_cons (pv 5) pa_nil))) pa_nil)))) (pss_one (ps_fld (pv 2) (pe_df T.proof_from (ok_proof_from T B) hr (pa_cons (pv 4) (pa_cons (pv 5) (pa_cons (pv 0) (pa_cons (pv 1) pa_nil))))) (by rfl))))
      (pss_one (ps_if (pt_cmpR op_notN (pe_fld (pv 2) (by rfl)) pe_non (nomark _)) (pss_one (ps_ret (pv 2))) pss_nil))))))
      (pss_one (ps_ret (pv 2))))), ?_⟩
  intro p dx np nd ne
  refine ⟨p, dx, rfl, upd_same, fun H1 lf nlf hpo hlf kp => ⟨rfl, ?_⟩⟩
  have e1 : Ex H H1 := fun b o hb => by
    have n1 : b ≠ p := fun z => by rw [z, np] at hb; cases hb
    have n2 : b ≠ dx := fun z => by rw [z, nd] at hb; cases hb
    exact kp b o (by rw [upd_ne n1, upd_ne n2]; exact hb) n1
  have nlf0 : H lf = none := none_upd (none_upd nlf)
  have nlp : lf ≠ p := ne_upd nlf
  dsimp only
  have ek : (s.k : Int) + 1 = ((s.k + 1 : Nat) : Int) := by push_cast; rfl
  have vM : ∀ {H1 : Hp} {σ : L2.St}, Ex H H1 → σ[1]? = some (some vm) → EvP (tVar 1) σ H1 (FrL K s.m) := fun e h => ep_var h (mo_frl _ _ _ e hm) mo_frl
  refine sp_for_range (n := s.k + 1) ((ep_add (ep_v rfl) ep_c).to (by rw [ek])) (by omega) (fun k σ H' => ∃ (f : List (List Frac × Frac)) (vs : List V) (x3 x4 x5 : Option V), σ = [some (.int (s.k : Int)), some vm, some (.ref p), x3, x4, x5] ∧ Ex H H' ∧
    H' p = some (.ins T.Angles.C dx (aF lf .non)) ∧ H' lf = some (.lst vs) ∧ Al (Pr K lf) H' vs f ∧ Fd s f k ∧ Sr73.looked s = lookAt s k f ∧ k ≤ s.k + 1) ?_ ?_ ?_
  · intro H2 e2
    exact ⟨[], [], none, none, none, rfl, e1.trans e2, e2 _ _ hpo, e2 _ _ hlf, trivial, fd_nil _, looked_at s, Nat.zero_le _⟩
  · rintro k σ H2 hk ⟨f, vs, x3, x4, x5, rfl, e2, hp2, hl2, hal, hfd, hlook, _⟩
    have hfnd := hfd.fnd
    obtain ⟨pb, ql⟩ := lfd_ok hmb hfnd (by omega : k < 8)
    obtain ⟨t1, t2, t3, t4⟩ := look_turn hmb hfnd (by omega) h8
    have hf5 : f.length ≤ 5 := by have := hfnd.len; omega
    have okL : LfOk k f s := ⟨hg, hfnd, by omega⟩
    have okQ : MsqOk (lfd k f s.m) s.m := pb_msqOk hg pb hf5 (by omega) (by omega)
    have okN : MnOk (lfd k f s.m) s := ⟨hg, fun i hi => pb_mwpOk hg pb hf5 (by omega) (by omega)⟩
    have okP : PfOk (lfd k f s.m) s := ⟨hg, okN, fun i hi => by
      obtain ⟨a, b, c⟩ := of_met_some hi
      have := (proof_is hmb hfd h8 (by omega) a hlen b).1
      exact ⟨hg, ⟨f.length, hf5, pb⟩, by omega, a, b⟩⟩
    have fld : EvP (tFld K (tVar 2) "found") [some (.int (s.k : Int)), some vm, some (.ref p), some (.int (k : Int)), x4, x5] H2 (FdL K f) := ep_is (ep_fld (K := K) (ep_v rfl) hp2 T.Angles.cl T.nFound (aF_found _ _)) ⟨lf, vs, rfl, hl2, hal⟩ mo_fdl
    refine sp_asg (ep_callN (k, f, s) okL (ea_c (ep_v rfl) (mo_is _) (ea_c fld mo_fdl (ea_c (vM e2 rfl) mo_frl ea_n)))) fun v H3 e3 hv => ?_
    obtain ⟨lq, uq, rfl, nq, hq, fq⟩ := hv
    have nqf : lq ≠ lf := fun z => by
      rw [z, hl2] at nq
      cases nq
    dsimp only
    refine sp_asg (ec_msq (ep_var rfl ⟨lq, uq, rfl, hq, fq⟩ mo_frl) (vM (e2.trans e3) rfl) okQ) fun vz H4 e4 hz => ?_
    have e34 := e3.trans e4
    have e24 := e2.trans e34
    have hp4 := e34 _ _ hp2
    have hl4 := e34 _ _ hl2
    have hal4 := hal.mono (fun _ => mo_pr) e34
    dsimp only
    refine sp_if (et_t (ep_gt (ep_num (K := K) (ep_var rfl hz mo_fr)) ep_c)) (fun cc H5 e5 => ?_) fun cc H5 e5 => ?_
    · have pos : 0 < (msq (lfd k f s.m) s.m).n := of_decide_eq_true cc
      refine sp_append (K := K) (l := lf) (us := vs) (ep_fld (K := K) (ep_v rfl) (e5 _ _ hp4) T.Angles.cl T.nFound (aF_found _ _)) (e5 _ _ hl4) (ep_tup2 (K := K) (ep_v rfl) (ep_v rfl)) ?_ fun y H6 e6 hy => ?_
      · rw [hal.len]
        omega
      · obtain ⟨t, rfl, ht⟩ := hy
        have e46 := e5.trans e6
        have hl6 := e46 _ _ hl4
        have hp7 : upd H6 lf (.lst (vs ++ [.ref t])) p = some (.ins T.Angles.C dx (aF lf .non)) := by
          rw [upd_ne nlp.symm]
          exact e46 _ _ hp4
        dsimp only
        refine sp_if (et_t (ep_notN (ep_fld (K := K) (ep_v rfl) hp7 T.Angles.cl T.nProof (aF_proof _ _)))) (fun c2 H7 e7 => ?_) fun c2 H7 e7 => ?_
        · exact absurd c2 (by decide)
        · refine ⟨f ++ [(lfd k f s.m, msq (lfd k f s.m) s.m)], vs ++ [.ref t], some (.int (k : Int)), some (.ref lq), some vz, rfl, (Ex.mut (e24.trans e46) nlf0).trans e7, e7 _ _ hp7, e7 _ _ upd_same, ?_, fd_found hmb hfd h8 (by omega) pos, hlook.trans (t1 pos), by omega⟩
          refine Al.mono (fun _ => mo_pr) e7 (Al.app ((hal4.mono (fun _ => mo_pr) e46).imp fun y v h => pr_upd hl6 h) ⟨pr_upd hl6 ⟨t, lq, vz, uq, rfl, ht, nqf, (e4.trans e46) _ _ hq, (fq.mono e4).mono e46, mo_fr _ _ _ e46 hz⟩, trivial⟩)
    · have npos : ¬ 0 < (msq (lfd k f s.m) s.m).n := of_decide_eq_false cc
      have e45 := e24.trans e5
      have call : EvP (tCall (sp_proof_from K) [] E0 (tCons (tVar 4) (tCons (tVar 5) (tCons (tVar 0) (tCons (tVar 1) tNil))))) [some (.int (s.k : Int)), some vm, some (.ref p), some (.int (k : Int)), some (.ref lq), some vz] H5 (POp K (prf (lfd k f s.m) s)) :=
        ep_call (R := fun a : List Frac × Sr73.Means => POp K (prf a.1 a.2)) (A := fun a : List Frac × Sr73.Means => AC (FrL K a.1) (AC (Fr K (msq a.1 a.2.m)) (AC (Is (.int (a.2.k : Int))) (AC (FrL K a.2.m) A0)))) (lfd k f s.m, s) okP
          (ea_c (ep_var rfl ⟨lq, uq, rfl, (e4.trans e5) _ _ hq, (fq.mono e4).mono e5⟩ mo_frl) mo_frl (ea_c (ep_var rfl (mo_fr _ _ _ e5 hz) mo_fr) mo_fr (ea_c (ep_v rfl) (mo_is _) (ea_c (vM e45 rfl) mo_frl ea_n))))
      refine sp_fld (K := K) call (ep_v rfl) (e5 _ _ hp4) T.Angles.cl T.nProof (by show 2 < 1000; decide) (fun y H6 e6 hy _ => ?_) mo_pop
      dsimp only
      rw [aF_put]
      have e46 := e5.trans e6
      have hp6 := e46 _ _ hp4
      have hl6 := e46 _ _ hl4
      have hal6 := (hal4.mono (fun _ => mo_pr) e46).imp fun y' v h => pr_updI (o := .ins T.Angles.C dx (aF lf y)) hp6 h
      have hy6 : POp K (prf (lfd k f s.m) s) y (upd H6 p (.ins T.Angles.C dx (aF lf y))) := by
        cases hpr : prf (lfd k f s.m) s with
        | none =>
          rw [hpr] at hy
          exact hy
        | some z =>
          rw [hpr] at hy
          obtain ⟨t, lp, zz, us, h1, h2, h4, h5, h6⟩ := hy
          have n : lp ≠ p := fun z => by
            rw [z, hp6] at h4
            cases h4
          exact ⟨t, lp, zz, us, h1, sqt_upd hp6 (fun _ z => by cases z) (fun _ _ z => by cases z) h2, by rw [upd_ne n]; exact h4, fs_updI hp6 h5, fr_updI hp6 h6⟩
      have eu : Ex H (upd H6 p (.ins T.Angles.C dx (aF lf y))) := Ex.mut (e24.trans e46) np
      have ep : POp K (prf (lfd k f s.m) s) y H6 := hy
      refine sp_if (et_t (ep_notN (ep_fld (K := K) (ep_v rfl) upd_same T.Angles.cl T.nProof (aF_proof _ _)))) (fun c2 H7 e7 => ?_) fun c2 H7 e7 => ?_
      · rw [pop_none ep] at c2
        refine sp_ret (ep_v rfl) fun v H8 e8 hv => ?_
        obtain rfl : v = _ := hv
        have ex : Sr73.looked s = (f, (prf (lfd k f s.m) s).map (·.1)) ∧ prO s = prf (lfd k f s.m) s := by
          have hl : lookAt s k f = (f, (prf (lfd k f s.m) s).map (·.1)) ∧ ∀ z, prf (lfd k f s.m) s = some z → z.2 = msq z.1 s.m := by
            unfold prf at c2 ⊢
            by_cases c3 : (msq (lfd k f s.m) s.m).n < 0
            · rw [if_pos c3] at c2 ⊢
              refine ⟨t2 c3, fun z hz => ?_⟩
              obtain rfl := Option.some.inj hz
              rfl
            · rw [if_neg c3] at c2 ⊢
              have c4 : (msq (lfd k f s.m) s.m).n = 0 := by omega
              cases hmet : met (lfd k f s.m) s with
              | none => rw [hmet] at c2; cases c2
              | some i =>
                obtain ⟨a, b, c⟩ := of_met_some hmet
                refine ⟨?_, fun z hz => ?_⟩
                · rw [t4 c4 i a b c, (proof_is hmb hfd h8 (by omega) a hlen b).2]
                  rfl
                · obtain rfl := Option.some.inj hz
                  rfl
          refine ⟨hlook.trans hl.1, ?_⟩
          unfold prO
          rw [hlook, hl.1]
          cases hpr : prf (lfd k f s.m) s with
          | none => rfl
          | some z =>
            have := hl.2 z hpr
            show some (z.1, msq z.1 s.m) = some z
            rw [← this]
        refine q _ H8 ((eu.trans e7).trans e8) ?_
        rw [ex.2, ex.1]
        exact mo_anp _ _ _ (e7.trans e8) ⟨p, dx, lf, vs, y, rfl, upd_same, by rw [upd_ne nlp]; exact hl6, hal6, hy6⟩
      · rw [pop_none ep] at c2
        have pn : prf (lfd k f s.m) s = none := by
          cases h : prf (lfd k f s.m) s with
          | none => rfl
          | some z => rw [h] at c2; cases c2
        have yn : y = .non := by
          rw [pn] at ep
          exact ep
        have c34 : ¬ (msq (lfd k f s.m) s.m).n < 0 ∧ met (lfd k f s.m) s = none := by
          unfold prf at pn
          by_cases c3 : (msq (lfd k f s.m) s.m).n < 0
          · rw [if_pos c3] at pn; cases pn
          · rw [if_neg c3] at pn
            refine ⟨c3, ?_⟩
            cases h : met (lfd k f s.m) s with
            | none => rfl
            | some i => rw [h] at pn; cases pn
        have c4 : (msq (lfd k f s.m) s.m).n = 0 := by omega
        have all0 := of_met_none c34.2
        subst yn
        exact ⟨f, vs, _, _, _, rfl, eu.trans e7, e7 _ _ upd_same, e7 _ _ (by rw [upd_ne nlp]; exact hl6), hal6.mono (fun _ => mo_pr) e7, fd_skip hmb hfd h8 (by omega) all0, hlook.trans (t3 c4 all0), by omega⟩
  · rintro σ H2 ⟨f, vs, x3, x4, x5, rfl, e2, hp2, hl2, hal, hfd, hlook, _⟩
    dsimp only
    refine sp_ret (ep_v rfl) fun v H3 e3 hv => ?_
    obtain rfl : v = _ := hv
    refine q _ H3 (e2.trans e3) ?_
    have ep : prO s = none := by
      unfold prO
      rw [hlook, look_end]
      rfl
    rw [ep, hlook, look_end]
    exact mo_anp _ _ _ e3 ⟨p, dx, lf, vs, .non, rfl, hp2, hl2, hal, rfl⟩
end
end Sm


/-! # fits, strict, proof, angle, rank -/
namespace Sm
open PySem PySem.Spec PyProof.Rows L2 Evl
open Sr58 (Frac frac plus times whole)
open Sr66 (minus over zero neg)
theorem proof_nf {s : Sr73.Means} (hm : MB s.m) (h8 : s.k < 8) (hl : s.m.length = 2 * s.k + 1) : ∀ (n j : Nat) (f : List (List Frac × Frac)), j + n = s.k + 1 → Fd s f j → ∀ p, (lookAt s j f).2 = some p → NfL p ∧ p.length ≤ s.k + 1
  | 0, j, f, hj, h, p, e => by
    obtain rfl : j = s.k + 1 := by omega
    rw [look_end] at e
    cases e
  | n + 1, j, f, hj, h, p, e => by
    obtain ⟨pq, lq⟩ := lfd_ok hm h.fnd (by omega : j < 8)
    obtain ⟨t1, t2, t3, t4⟩ := look_turn hm h.fnd (by omega) h8
    by_cases c1 : 0 < (msq (lfd j f s.m) s.m).n
    · rw [t1 c1] at e
      exact proof_nf hm h8 hl n (j + 1) _ (by omega) (fd_found hm h h8 (by omega) c1) p e
    · by_cases c2 : (msq (lfd j f s.m) s.m).n < 0
      · rw [t2 c2] at e
        obtain rfl := Option.some.inj e
        exact ⟨pq.nf, by omega⟩
      · have c3 : (msq (lfd j f s.m) s.m).n = 0 := by omega
        cases hmet : met (lfd j f s.m) s with
        | none =>
          rw [t3 c3 (of_met_none hmet)] at e
          exact proof_nf hm h8 hl n (j + 1) _ (by omega) (fd_skip hm h h8 (by omega) (of_met_none hmet)) p e
        | some i =>
          obtain ⟨hi, hn, hz⟩ := of_met_some hmet
          obtain ⟨hji, ep⟩ := proof_is hm h h8 (by omega) hi hl hn
          rw [t4 c3 i hi hn hz, ep] at e
          obtain rfl := Option.some.inj e
          have nw := nf_mwp pq.nf hm.nf i
          refine ⟨nf_lo (nf_pow i) pq.nf (nf_over (nf_plus (nf_getD hm.nf _) (nf_whole 1)) (two_ne nw hn)) (by rw [lq, len_pow]; omega), ?_⟩
          rw [len_lo, len_pow]
          omega
theorem looked_nf {s : Sr73.Means} (g : Good s) {p : List Frac} (e : (Sr73.looked s).2 = some p) : NfL p ∧ p.length ≤ s.k + 1 := by
  rw [looked_at] at e
  exact proof_nf g.mb (by have := g.k4; omega) g.len (s.k + 1) 0 [] (by omega) (fd_nil s) p e
section
variable {P : Program} {w : World} {K : PySem.W.Frag} {mg : Str → Option Value} {base : Heap}
section
variable {T : Txt K mg} {σ : L2.St} {H : Hp} {ta tb : TE} {f : List (List Frac × Frac)} {o : Option (List Frac × Frac)} {y : List Frac × Frac}
theorem ep_proof (ha : EvP ta σ H (AnP T f o)) : EvP (tFld K ta "proof") σ H (POp K o) := fun H1 e Q q =>
  ha H1 e _ fun v H2 e2 ⟨p, dx, lf, vs, vp, h1, h2, h3, h4, h5⟩ => ⟨p, _, dx, _, _, h1, h2, T.Angles.cl, T.nProof, aF_proof _ _, q _ H2 e2 h5⟩
theorem ep_found (ha : EvP ta σ H (AnP T f o)) : EvP (tFld K ta "found") σ H (FdL K f) := fun H1 e Q q =>
  ha H1 e _ fun v H2 e2 ⟨p, dx, lf, vs, vp, h1, h2, h3, h4, h5⟩ => ⟨p, _, dx, _, _, h1, h2, T.Angles.cl, T.nFound, aF_found _ _, q _ H2 e2 ⟨lf, vs, rfl, h3, h4⟩⟩
theorem ep_lenD (ha : EvP ta σ H (FdL K f)) :
    EvP (tCB (fun xs H Q => ∃ p ys, xs = [.ref p] ∧ (SqL K H p ys ∨ SqT K H p ys) ∧ Q (.int ys.length) H) (tCons ta tNil)) σ H (Is (.int (f.length : Int))) := fun H1 e Q q =>
  ha H1 e _ fun v H2 e2 ⟨lf, vs, ea, sq, al⟩ => ⟨lf, vs, by rw [ea], .inl (sq_of sq), q _ H2 e2 (by rw [al.len]; rfl)⟩
theorem ep_ixD {j : Nat} (ha : EvP ta σ H (FdL K f)) (hb : EvP tb σ H (Is (.int (j : Int)))) (hj : f[j]? = some y) : EvP (tOp (rIxL K) ta tb) σ H (Pq K y) := fun H1 e Q q =>
  ha H1 e _ fun a H2 e2 ⟨lf, vs, ea, sq, al⟩ => hb H2 (e.trans e2) _ fun b H3 e3 eb => by
    obtain ⟨v, hv, pv⟩ := (al.mono (fun _ => mo_pr) e3).at hj
    exact ⟨lf, vs, j, v, ea, eb, sq_of (e3 _ _ sq), atI_nat hv, q _ H3 (e2.trans e3) (pr_pq pv)⟩
theorem ep_pq0 (ha : EvP ta σ H (Pq K y)) : EvP (tOp (rIxT K) ta (tC (.int 0))) σ H (FrL K y.1) := fun H1 e Q q =>
  ha H1 e _ fun v H2 e2 ⟨t, lp, z, us, h1, h2, h4, h5, h6⟩ => ⟨t, [.ref lp, z], 0, .ref lp, h1, rfl, h2, rfl, q _ H2 e2 ⟨lp, us, rfl, h4, h5⟩⟩
theorem ep_pq1 (ha : EvP ta σ H (Pq K y)) : EvP (tOp (rIxT K) ta (tC (.int 1))) σ H (Fr K y.2) := fun H1 e Q q =>
  ha H1 e _ fun v H2 e2 ⟨t, lp, z, us, h1, h2, h4, h5, h6⟩ => ⟨t, [.ref lp, z], 1, z, h1, rfl, h2, rfl, q _ H2 e2 h6⟩
theorem ep_poN (ha : EvP ta σ H (POp K o)) : EvP (tOp (fun x y H Q => y = .non ∧ Q (.bl (decide (x = .non))) H) ta (tC .non)) σ H (Is (.bl o.isNone)) := fun H1 e Q q =>
  ha H1 e _ fun a H2 e2 ea => ⟨rfl, q _ H2 e2 (by rw [pop_none ea]; rfl)⟩
end
def sp_fits_at_all (T : Txt K mg) : Sp := spF (fun _ : List (List Frac × Frac) × Option (List Frac × Frac) => True) (fun a => AC (AnP T a.1 a.2) A0) (fun a => Is (.bl a.2.isNone))
theorem ok_fits_at_all (T : Txt K mg) (B : Bs P base) : FnOk P w K mg base CX0 1 T.fits_at_all.f T.fits_at_all.fd ["angles"] (sp_fits_at_all T) := by
  refine ok_spF T.fits_at_all sc_fits_at_all (fun a vs H h => len1 h) fun cdv Ar outer s0 H Q E a vs hr hp ha q => ?_
  obtain ⟨va, _, rfl, hv, rfl⟩ := ha
  refine ⟨_, (pss_one (ps_ret (pe_cmpR op_isN (pe_fld (pv 0) (by rfl)) pe_non (nomark _)))), ?_⟩
  exact sp_ret (ep_poN (ep_proof (ep_var rfl hv mo_anp))) fun v H1 e1 hv => q v H1 e1 hv
def sp_fits_strictly (T : Txt K mg) : Sp := spF (fun _ : (List (List Frac × Frac) × Option (List Frac × Frac)) × Nat => True) (fun a => AC (AnP T a.1.1 a.1.2) (AC (Is (.int (a.2 : Int))) A0)) (fun a => Is (.bl (decide (a.1.1.length = a.2 + 1))))
theorem ok_fits_strictly (T : Txt K mg) (B : Bs P base) : FnOk P w K mg base CX0 1 T.fits_strictly.f T.fits_strictly.fd ["angles", "k"] (sp_fits_strictly T) := by
  refine ok_spF T.fits_strictly sc_fits_strictly (fun a vs H h => len2 h) fun cdv Ar outer s0 H Q E a vs hr hp ha q => ?_
  obtain ⟨⟨f, o⟩, k⟩ := a
  obtain ⟨va, _, rfl, hv, _, _, rfl, rfl, rfl⟩ := ha
  refine ⟨_, (pss_one (ps_ret (pe_cmpR op_eq (pe_callB call_len_seq (by rfl) T.len (by decide +kernel) (pa_cons (pe_fld (pv 0) (by rfl)) pa_nil)) (pe_op op_add (pv 1) pe_int) (nomark _)))), ?_⟩
  refine sp_ret (ep_eq (ep_lenD (K := K) (ep_found (ep_var rfl hv mo_anp))) (ep_add (ep_v rfl) ep_c)) fun v H1 e1 hv => q v H1 e1 ?_
  obtain rfl : v = _ := hv
  show V.bl _ = V.bl _
  congr 1
  exact decide_eq_decide.mpr (by show (f.length : Int) = (k : Int) + 1 ↔ f.length = k + 1; omega)
/-- all powers up to j are found -/
def upTo (f : List (List Frac × Frac)) (j : Nat) : Bool := match f[j]? with
  | none => false
  | some y => decide (y.1.length = j + 1)
def sp_all_found_up_to (T : Txt K mg) : Sp := spF (fun _ : (List (List Frac × Frac) × Option (List Frac × Frac)) × Nat => True) (fun a => AC (AnP T a.1.1 a.1.2) (AC (Is (.int (a.2 : Int))) A0)) (fun a => Is (.bl (upTo a.1.1 a.2)))
theorem ok_all_found_up_to (T : Txt K mg) (B : Bs P base) : FnOk P w K mg base CX0 1 T.all_found_up_to.f T.all_found_up_to.fd ["angles", "power"] (sp_all_found_up_to T) := by
  refine ok_spF T.all_found_up_to sc_all_found_up_to (fun a vs H h => len2 h) fun cdv Ar outer s0 H Q E a vs hr hp ha q => ?_
  obtain ⟨⟨f, o⟩, k⟩ := a
  obtain ⟨va, _, rfl, hv, _, _, rfl, rfl, rfl⟩ := ha
  have hv : AnP T f o va H := hv
  refine ⟨_, (pss_one (ps_ret (pe_and (pe_cmpR op_gt (pe_callB call_len_seq (by rfl) T.len (by decide +kernel) (pa_cons (pe_fld (pv 0) (by rfl)) pa_nil)) (pv 1) (nomark _)) (pe_one (pe_cmpR op_eq (pe_callB call_len_seq (by rfl) T.len (by decide +kernel) (pa_cons (pe_ix ix_tup (pe_ix ix_list (pe_fld (pv 0) (by rfl)) (pv 1) (fun _ _ => rfl)) pe_int (fun _ _ => rfl)) pa_nil)) (pe_op op_add (pv 1) pe_int) (nomark _)))))), ?_⟩
  have vA : EvP (tVar 0) [some va, some (.int (k : Int))] H (AnP T f o) := ep_var rfl hv mo_anp
  by_cases c : k < f.length
  · have ef : f[k]? = some f[k] := List.getElem?_eq_getElem c
    generalize f[k] = y at ef
    refine sp_ret (ep_and (ep_gt (ep_lenD (K := K) (ep_found vA)) (ep_v rfl)) fun _ => ep_eq (ep_lenF (K := K) (ep_pq0 (ep_ixD (ep_found vA) (ep_v rfl) ef))) (ep_add (ep_v rfl) ep_c)) fun v H1 e1 hv => q v H1 e1 ?_
    obtain rfl : v = _ := hv
    show V.bl _ = V.bl (upTo f k)
    congr 1
    unfold upTo
    rw [ef, decide_eq_true (show (k : Int) < (f.length : Int) by omega), Bool.true_and]
    exact decide_eq_decide.mpr (by show (y.1.length : Int) = (k : Int) + 1 ↔ y.1.length = k + 1; omega)
  · have gt : decide ((k : Int) < (f.length : Int)) = false := decide_eq_false (by omega)
    refine sp_ret (ep_and (c := false) (ep_gt (ep_lenD (K := K) (ep_found vA)) (ep_v rfl)) fun z => ?_) fun v H1 e1 hv => q v H1 e1 ?_
    · rw [gt] at z
      cases z
    · obtain rfl : v = _ := hv
      show V.bl _ = V.bl (upTo f k)
      congr 1
      unfold upTo
      rw [List.getElem?_eq_none (by omega), gt]
      rfl
def sp_angles_of (T : Txt K mg) : Sp := spF (fun a : Addr × Addr × Sr73.Means => Good a.2.2) (fun a vs H => vs = [.ref a.1] ∧ SpAt T H a.1 a.2.1 (some a.2.2)) (fun a => AnP T (Sr73.looked a.2.2).1 (prO a.2.2))
theorem ok_angles_of (T : Txt K mg) (B : Bs P base) : FnOk P w K mg base CX0 49 T.angles_of.f T.angles_of.fd ["spread"] (sp_angles_of T) := by
  refine ok_spF T.angles_of sc_angles_of (fun a vs H h => by rw [h.1]; rfl) fun cdv Ar outer s0 H Q E a vs hr hp ha q => ?_
  obtain ⟨a, l, s⟩ := a
  obtain ⟨rfl, ho⟩ := ha
  refine ⟨_, (pss_one (ps_ret (pe_df T.at_right_angles (ok_at_right_angles T B) hr (pa_cons (pe_fld (pv 0) (by rfl)) (pa_cons (pe_fld (pv 0) (by rfl)) pa_nil))))), ?_⟩
  exact sp_ret (ep_call (R := fun s : Sr73.Means => AnP T (Sr73.looked s).1 (prO s)) s hp (ea_c (ep_kk (ep_v rfl) ho) (mo_is _) (ea_c (ep_means (ep_v rfl) ho) mo_frl ea_n))) fun v H1 e1 hv => q v H1 e1 hv
section
variable {T : Txt K mg} {σ : L2.St} {H : Hp} {ta tb : TE} {f : List (List Frac × Frac)} {o : Option (List Frac × Frac)}
theorem ec_angles {a l : Addr} {s : Sr73.Means} (ha : EvP ta σ H (Is (.ref a))) (ho : SpAt T H a l (some s)) (hg : Good s) : EvP (tCall (sp_angles_of T) [] E0 (tCons ta tNil)) σ H (AnP T (Sr73.looked s).1 (prO s)) :=
  ep_call (R := fun a : Addr × Addr × Sr73.Means => AnP T (Sr73.looked a.2.2).1 (prO a.2.2)) (A := fun (a : Addr × Addr × Sr73.Means) vs H => vs = [.ref a.1] ∧ SpAt T H a.1 a.2.1 (some a.2.2)) (Pre := fun a : Addr × Addr × Sr73.Means => Good a.2.2) (a, l, s) hg (fun H1 e Q q => ha H1 e _ fun v H2 e2 hv => q [v] H2 e2 ⟨by rw [show v = _ from hv], ho.mono (e.trans e2)⟩)
theorem ec_fits (ha : EvP ta σ H (AnP T f o)) : EvP (tCall (sp_fits_at_all T) [] E0 (tCons ta tNil)) σ H (Is (.bl o.isNone)) :=
  ep_call (R := fun a : List (List Frac × Frac) × Option (List Frac × Frac) => Is (.bl a.2.isNone)) (A := fun a : List (List Frac × Frac) × Option (List Frac × Frac) => AC (AnP T a.1 a.2) A0) (Pre := fun _ => True) (f, o) trivial (ea_c ha mo_anp ea_n)
theorem ec_strict {k : Nat} (ha : EvP ta σ H (AnP T f o)) (hb : EvP tb σ H (Is (.int (k : Int)))) : EvP (tCall (sp_fits_strictly T) [] E0 (tCons ta (tCons tb tNil))) σ H (Is (.bl (decide (f.length = k + 1)))) :=
  ep_call (R := fun a : (List (List Frac × Frac) × Option (List Frac × Frac)) × Nat => Is (.bl (decide (a.1.1.length = a.2 + 1)))) (A := fun a : (List (List Frac × Frac) × Option (List Frac × Frac)) × Nat => AC (AnP T a.1.1 a.1.2) (AC (Is (.int (a.2 : Int))) A0)) (Pre := fun _ => True) ((f, o), k) trivial (ea_c ha mo_anp (ea_c hb (mo_is _) ea_n))
theorem ec_upTo {k : Nat} (ha : EvP ta σ H (AnP T f o)) (hb : EvP tb σ H (Is (.int (k : Int)))) : EvP (tCall (sp_all_found_up_to T) [] E0 (tCons ta (tCons tb tNil))) σ H (Is (.bl (upTo f k))) :=
  ep_call (R := fun a : (List (List Frac × Frac) × Option (List Frac × Frac)) × Nat => Is (.bl (upTo a.1.1 a.2))) (A := fun a : (List (List Frac × Frac) × Option (List Frac × Frac)) × Nat => AC (AnP T a.1.1 a.1.2) (AC (Is (.int (a.2 : Int))) A0)) (Pre := fun _ => True) ((f, o), k) trivial (ea_c ha mo_anp (ea_c hb (mo_is _) ea_n))
end
theorem fits_prO (s : Sr73.Means) : (prO s).isNone = Sr73.fits s := by
  unfold prO Sr73.fits
  cases (Sr73.looked s).2 <;> rfl
theorem strict_dec {s : Sr73.Means} (g : Good s) : decide ((Sr73.looked s).1.length = s.k + 1) = Sr73.strict s := by
  rw [strict_is g.mb (by have := g.k4; omega)]
  by_cases c : (Sr73.looked s).1.length = s.k + 1
  · rw [decide_eq_true c, c]
    simp
  · rw [decide_eq_false c]
    exact (beq_eq_false_iff_ne.mpr c).symm
def ok_fits_ : Sr73.State → List Int → List Int → Sr73.Call → Prop := fun st _ _ c => ∃ s, st = some s ∧ c = .fits
theorem ok_tell_fits (T : Txt K mg) (B : Bs P base) : FnOk P w K mg base CX0 50 T.tell_fits.f T.tell_fits.fd ["spread", "numbers", "row"] (spC T ok_fits_) := by
  refine ok_spC T.tell_fits sc_tell_fits fun cdv Ar outer s0 H Q E a l ln lr ns row z c hr ho hn hw hg hc q => ?_
  obtain ⟨s, rfl, rfl⟩ := hc
  have hg : Good s := hg
  have nb : ∀ k, Sr73.Call.fits ≠ .begin_ k := fun k z => by cases z
  have es := step_none nb (show Sr73.doing s .fits = (none, Sr73.say (Sr73.bit (Sr73.fits s))) from rfl)
  refine ⟨_, (pss_one (ps_ret (pe_lst (pa_cons (pe_ifExp (pt_val (pe_df T.fits_at_all (ok_fits_at_all T B) hr (pa_cons (pe_df T.angles_of (ok_angles_of T B) hr (pa_cons (pv 0) pa_nil)) pa_nil))) pe_int pe_int) pa_nil)))), ?_⟩
  have call := et_b ((ec_fits (ec_angles (σ := [some (.ref a), some (.ref ln), some (.ref lr)]) (ta := tVar 0) (ep_v rfl) ho hg)).to (by rw [fits_prO]))
  refine sp_ret (ep_lstI (ea_i (i := Sr66.bit (Sr73.fits s)) (ep_if call (fun c => ?_) fun c => ?_) ea_in) (by simp)) fun v H1 e1 hv => ?_
  · rw [c]
    exact ep_c
  · rw [c]
    exact ep_c
  · exact told_end q ho e1 hv (by rw [es]) (by rw [es]; rfl)
def ok_strict_ : Sr73.State → List Int → List Int → Sr73.Call → Prop := fun st _ _ c => ∃ s, st = some s ∧ c = .strict
theorem ok_tell_strict (T : Txt K mg) (B : Bs P base) : FnOk P w K mg base CX0 50 T.tell_strict.f T.tell_strict.fd ["spread", "numbers", "row"] (spC T ok_strict_) := by
  refine ok_spC T.tell_strict sc_tell_strict fun cdv Ar outer s0 H Q E a l ln lr ns row z c hr ho hn hw hg hc q => ?_
  obtain ⟨s, rfl, rfl⟩ := hc
  have hg : Good s := hg
  have nb : ∀ k, Sr73.Call.strict ≠ .begin_ k := fun k z => by cases z
  have es := step_none nb (show Sr73.doing s .strict = (none, Sr73.say (Sr73.bit (Sr73.strict s))) from rfl)
  refine ⟨_, (pss_one (ps_ret (pe_lst (pa_cons (pe_ifExp (pt_val (pe_df T.fits_strictly (ok_fits_strictly T B) hr (pa_cons (pe_df T.angles_of (ok_angles_of T B) hr (pa_cons (pv 0) pa_nil)) (pa_cons (pe_fld (pv 0) (by rfl)) pa_nil)))) pe_int pe_int) pa_nil)))), ?_⟩
  have call := et_b ((ec_strict (ec_angles (σ := [some (.ref a), some (.ref ln), some (.ref lr)]) (ta := tVar 0) (ep_v rfl) ho hg) (ep_kk (ta := tVar 0) (ep_v rfl) ho)).to (by rw [strict_dec hg]))
  refine sp_ret (ep_lstI (ea_i (i := Sr66.bit (Sr73.strict s)) (ep_if call (fun c => ?_) fun c => ?_) ea_in) (by simp)) fun v H1 e1 hv => ?_
  · rw [c]
    exact ep_c
  · rw [c]
    exact ep_c
  · exact told_end q ho e1 hv (by rw [es]) (by rw [es]; rfl)
/-- a refusal, told by a constant of the top -/
theorem told_no {T : Txt K mg} {H H1 : Hp} {a l : Addr} {s : Sr73.Means} {c : Sr73.Call} {Q : VK} {σ : L2.St} {n : Int} {D : Ends} (hD : D.rt = Q) (nb : ∀ k, c ≠ .begin_ k)
    (q : ∀ (p : Addr) (H' : Hp) (l' : Addr), H p = none → H' p = some (.lst ((told (Sr73.step (some s) c).2).map V.int)) → Else a l H H' → SpAt T H' a l' (Sr73.step (some s) c).1 → (l' = l ∨ H l' = none) → Q (.ref p) H')
    (h : SpAt T H a l (some s)) (e : Ex H H1) (es : Sr73.doing s c = (none, Sr73.say n)) : tRet (tLst (tCons (tC (.int n)) tNil)) D σ H1 := by
  have es := step_none nb es
  refine sp_ret (ep_lstI (ea_i ep_c ea_in) (by simp)) fun v H2 e2 hv => ?_
  rw [hD]
  exact told_end q h (e.trans e2) (in_back e hv) (by rw [es]) (by rw [es]; rfl)
def ok_proof_ : Sr73.State → List Int → List Int → Sr73.Call → Prop := fun st _ _ c => ∃ s, st = some s ∧ c = .proof
theorem ok_tell_proof (T : Txt K mg) (B : Bs P base) : FnOk P w K mg base CX0 50 T.tell_proof.f T.tell_proof.fd ["spread", "numbers", "row"] (spC T ok_proof_) := by
  refine ok_spC T.tell_proof sc_tell_proof fun cdv Ar outer s0 H Q E a l ln lr ns row z c hr ho hn hw hg hc q => ?_
  obtain ⟨s, rfl, rfl⟩ := hc
  have hg : Good s := hg
  have nb : ∀ k, Sr73.Call.proof ≠ .begin_ k := fun k z => by cases z
  have k4 := hg.k4
  refine ⟨_, (pss_cons (ps_set (i := 3) sc_tell_proof.nd rfl (Or.inl rfl) (pe_df T.angles_of (ok_angles_of T B) hr (pa_cons (pv 0) pa_nil)))
      (pss_cons (ps_if (pt_val (pe_df T.fits_at_all (ok_fits_at_all T B) hr (pa_cons (pv 3) pa_nil))) (pss_one (ps_ret (pe_lst (pa_cons (pe_glob (by rfl) T.NOT_TOLD.g T.NOT_TOLD.r) pa_nil)))) pss_nil)
      (pss_cons (ps_set (i := 4) sc_tell_proof.nd rfl (Or.inl rfl) (pe_ix ix_tup (pe_fld (pv 3) (by rfl)) pe_int (fun _ _ => rfl)))
      (pss_one (ps_ret (pe_df T.with_fractions (ok_with_fractions T B) hr (pa_cons (pe_callB call_len_seq (by rfl) T.len (by decide +kernel) (pa_cons (pv 4) pa_nil)) (pa_cons (pe_op op_cat (pv 4) (pe_lst (pa_cons (pe_ix ix_tup (pe_fld (pv 3) (by rfl)) pe_int (fun _ _ => rfl)) pa_nil))) pa_nil)))))))), ?_⟩
  refine sp_asg (ec_angles (ep_v rfl) ho hg) fun va H1 e1 hv => ?_
  dsimp only
  refine sp_if (et_b (ec_fits (ep_var rfl hv mo_anp))) (fun cc H2 e2 => ?_) fun cc H2 e2 => ?_
  · rw [fits_prO] at cc
    have hn : (Sr73.looked s).2 = none := by
      have : (Sr73.looked s).2.isNone = true := cc
      simpa using this
    exact told_no rfl nb q ho (e1.trans e2) (by show (none, _) = (none, _); rw [hn])
  · (try unfold tNext)
    dsimp only
    cases hp : (Sr73.looked s).2 with
    | none =>
      have : prO s = none := by unfold prO; rw [hp]; rfl
      rw [this] at cc
      cases cc
    | some p =>
      have hpr : prO s = some (p, msq p s.m) := by unfold prO; rw [hp]; rfl
      obtain ⟨pn, pl⟩ := looked_nf hg hp
      rw [hpr] at hv
      have vA : ∀ {H3 : Hp} {σ : L2.St}, Ex H1 H3 → σ[3]? = some (some va) → EvP (tVar 3) σ H3 (AnP T (Sr73.looked s).1 (some (p, msq p s.m))) := fun e h => ep_var h (mo_anp _ _ _ e hv) mo_anp
      refine sp_asg (ep_pq0 (y := (p, msq p s.m)) (ep_proof (vA e2 rfl))) fun vf H3 e3 hf => ?_
      have hf : FrL K p vf H3 := hf
      have vF : EvP (tVar 4) [some (.ref a), some (.ref ln), some (.ref lr), some va, some vf] H3 (FrL K p) := ep_var rfl hf mo_frl
      have es := step_none nb (show Sr73.doing s .proof = (none, ⟨(p.length : Int), p.flatMap Sr66.fr ++ Sr66.fr (Sr73.mean s (Sr73.mul p p))⟩) by show (none, _) = (none, _); rw [hp])
      dsimp only
      refine sp_ret (ep_wf (m := p ++ [msq p s.m]) (ep_lenF (K := K) vF) (ep_frl (ep_cat vF (ep_frl (ep_lst1 (ep_pq1 (y := (p, msq p s.m)) (ep_proof (vA (e2.trans e3) rfl))))) (by simp; omega))) (by simp; omega)) fun v H4 e4 hv4 => ?_
      have e14 := (e1.trans e2).trans e3
      refine told_end q ho (e14.trans e4) (in_back e14 hv4) (by rw [es]) ?_
      rw [es]
      show (p.length : Int) :: (p.flatMap Sr66.fr ++ Sr66.fr _) = (p.length : Int) :: (p ++ [msq p s.m]).flatMap Sr66.fr
      rw [List.flatMap_append, msq_is hg.nf pn]
      simp
def ok_angle_ : Sr73.State → List Int → List Int → Sr73.Call → Prop := fun st ns _ c => ∃ s j, st = some s ∧ ns = [j] ∧ c = .angle j
theorem ok_tell_angle (T : Txt K mg) (B : Bs P base) : FnOk P w K mg base CX0 50 T.tell_angle.f T.tell_angle.fd ["spread", "numbers", "row"] (spC T ok_angle_) := by
  refine ok_spC T.tell_angle sc_tell_angle fun cdv Ar outer s0 H Q E a l ln lr ns row z c hr ho hn hw hg hc q => ?_
  obtain ⟨s, j, rfl, rfl, rfl⟩ := hc
  have hg : Good s := hg
  have nb : ∀ k, Sr73.Call.angle j ≠ .begin_ k := fun k z => by cases z
  have k4 := hg.k4
  refine ⟨_, (pss_cons (ps_set (i := 3) sc_tell_angle.nd rfl (Or.inl rfl) (pe_ix ix_list (pv 1) pe_int (fun _ _ => rfl)))
      (pss_cons (ps_if (pt_not (pt_chain op_le op_le pe_int (pv 3) (pe_fld (pv 0) (by rfl)))) (pss_one (ps_ret (pe_lst (pa_cons (pe_glob (by rfl) T.NO_SUCH_POWER.g T.NO_SUCH_POWER.r) pa_nil)))) pss_nil)
      (pss_cons (ps_set (i := 4) sc_tell_angle.nd rfl (Or.inl rfl) (pe_df T.angles_of (ok_angles_of T B) hr (pa_cons (pv 0) pa_nil)))
      (pss_cons (ps_if (pt_not (pt_val (pe_df T.all_found_up_to (ok_all_found_up_to T B) hr (pa_cons (pv 4) (pa_cons (pv 3) pa_nil))))) (pss_one (ps_ret (pe_lst (pa_cons (pe_glob (by rfl) T.NOT_TOLD.g T.NOT_TOLD.r) pa_nil)))) pss_nil)
      (pss_cons (ps_set (i := 5) sc_tell_angle.nd rfl (Or.inl rfl) (pe_ix ix_tup (pe_ix ix_list (pe_fld (pv 4) (by rfl)) (pv 3) (fun _ _ => rfl)) pe_int (fun _ _ => rfl)))
      (pss_one (ps_ret (pe_df T.with_fractions (ok_with_fractions T B) hr (pa_cons (pe_callB call_len_seq (by rfl) T.len (by decide +kernel) (pa_cons (pv 5) pa_nil)) (pa_cons (pe_op op_cat (pv 5) (pe_lst (pa_cons (pe_ix ix_tup (pe_ix ix_list (pe_fld (pv 4) (by rfl)) (pv 3) (fun _ _ => rfl)) pe_int (fun _ _ => rfl)) pa_nil))) pa_nil)))))))))), ?_⟩
  refine sp_asg (ep_ixI (K := K) (i := 0) (ep_var rfl ⟨ln, rfl, hn⟩ mo_il) ep_c rfl) fun v H1 e1 hv => ?_
  obtain rfl : v = _ := hv
  have ho1 := ho.mono e1
  dsimp only
  refine sp_if (et_not' (et_t (ep_chain (g := fun i j => decide (i ≤ j)) (g' := fun i j => decide (i ≤ j)) ep_c (ep_v rfl) (ep_kk (ep_v rfl) ho1)))) (fun cc H2 e2 => ?_) fun cc H2 e2 => ?_
  · have bad : j < 0 ∨ (s.k : Int) < j := by
      simp at cc
      omega
    exact told_no rfl nb q ho (e1.trans e2) (show Sr73.doing s (.angle j) = (none, Sr73.say (-2)) from congrArg (Prod.mk none) (if_pos bad))
  have ok1 : ¬ (j < 0 ∨ (s.k : Int) < j) := by
    simp at cc
    omega
  obtain ⟨n, rfl⟩ : ∃ n : Nat, j = (n : Int) := ⟨j.toNat, by omega⟩
  have e12 := e1.trans e2
  (try unfold tNext)
  dsimp only
  refine sp_asg (ec_angles (ep_v rfl) (ho.mono e12) hg) fun va H3 e3 hv => ?_
  have e13 := e12.trans e3
  dsimp only
  have vA : ∀ {H4 : Hp} {σ : L2.St}, Ex H3 H4 → σ[4]? = some (some va) → EvP (tVar 4) σ H4 (AnP T (Sr73.looked s).1 (prO s)) := fun e h => ep_var h (mo_anp _ _ _ e hv) mo_anp
  refine sp_if (et_not' (et_b (ec_upTo (vA (Ex.refl _) rfl) (ep_v rfl)))) (fun c2 H4 e4 => ?_) fun c2 H4 e4 => ?_
  · have c2 : upTo (Sr73.looked s).1 n = false := by simpa using c2
    refine told_no rfl nb q ho (e13.trans e4) (show Sr73.doing s (.angle (n : Int)) = (none, Sr73.say (-33)) from congrArg (Prod.mk none) ((if_neg ok1).trans ?_))
    rw [Int.toNat_natCast]
    unfold upTo at c2
    cases hy : (Sr73.looked s).1[n]? with
    | none => rfl
    | some y =>
      rw [hy] at c2
      exact if_pos (of_decide_eq_false c2)
  · have c2 : upTo (Sr73.looked s).1 n = true := by simpa using c2
    unfold upTo at c2
    cases hy : (Sr73.looked s).1[n]? with
    | none =>
      rw [hy] at c2
      cases c2
    | some y =>
      rw [hy] at c2
      have hyl : y.1.length = n + 1 := of_decide_eq_true c2
      have es := step_none nb (show Sr73.doing s (.angle (n : Int)) = (none, ⟨(y.1.length : Int), y.1.flatMap Sr66.fr ++ Sr66.fr y.2⟩) from congrArg (Prod.mk none) ((if_neg ok1).trans (by
        rw [Int.toNat_natCast, hy]
        exact if_neg (fun z => z hyl))))
      (try unfold tNext)
      dsimp only
      refine sp_asg (ep_pq0 (y := y) (ep_ixD (ep_found (vA e4 rfl)) (ep_v rfl) hy)) fun vf H5 e5 hf => ?_
      have vF : EvP (tVar 5) [some (.ref a), some (.ref ln), some (.ref lr), some (.int (n : Int)), some va, some vf] H5 (FrL K y.1) := ep_var rfl hf mo_frl
      dsimp only
      refine sp_ret (ep_wf (m := y.1 ++ [y.2]) (ep_lenF (K := K) vF) (ep_frl (ep_cat vF (ep_frl (ep_lst1 (ep_pq1 (y := y) (ep_ixD (ep_found (vA (e4.trans e5) rfl)) (ep_v rfl) hy)))) (by simp; omega))) (by simp; omega)) fun v H6 e6 hv6 => ?_
      have e15 := (e13.trans e4).trans e5
      refine told_end q ho (e15.trans e6) (in_back e15 hv6) (by rw [es]) ?_
      rw [es]
      show (y.1.length : Int) :: (y.1.flatMap Sr66.fr ++ Sr66.fr _) = (y.1.length : Int) :: (y.1 ++ [y.2]).flatMap Sr66.fr
      rw [List.flatMap_append]
      simp
def ok_rank_ : Sr73.State → List Int → List Int → Sr73.Call → Prop := fun st _ _ c => ∃ s, st = some s ∧ c = .rank
theorem ok_tell_rank (T : Txt K mg) (B : Bs P base) : FnOk P w K mg base CX0 50 T.tell_rank.f T.tell_rank.fd ["spread", "numbers", "row"] (spC T ok_rank_) := by
  refine ok_spC T.tell_rank sc_tell_rank fun cdv Ar outer s0 H Q E a l ln lr ns row z c hr ho hn hw hg hc q => ?_
  obtain ⟨s, rfl, rfl⟩ := hc
  have hg : Good s := hg
  have nb : ∀ k, Sr73.Call.rank ≠ .begin_ k := fun k z => by cases z
  refine ⟨_, (pss_cons (ps_set (i := 3) sc_tell_rank.nd rfl (Or.inl rfl) (pe_df T.angles_of (ok_angles_of T B) hr (pa_cons (pv 0) pa_nil)))
      (pss_cons (ps_if (pt_not (pt_val (pe_df T.fits_at_all (ok_fits_at_all T B) hr (pa_cons (pv 3) pa_nil)))) (pss_one (ps_ret (pe_lst (pa_cons (pe_glob (by rfl) T.NOT_TOLD.g T.NOT_TOLD.r) pa_nil)))) pss_nil)
      (pss_one (ps_ret (pe_lst (pa_cons (pe_callB call_len_seq (by rfl) T.len (by decide +kernel) (pa_cons (pe_fld (pv 3) (by rfl)) pa_nil)) pa_nil)))))), ?_⟩
  refine sp_asg (ec_angles (ep_v rfl) ho hg) fun va H1 e1 hv => ?_
  dsimp only
  refine sp_if (et_not' (et_b (ec_fits (ep_var rfl hv mo_anp)))) (fun cc H2 e2 => ?_) fun cc H2 e2 => ?_
  · rw [fits_prO] at cc
    have cc : Sr73.fits s = false := by simpa using cc
    exact told_no rfl nb q ho (e1.trans e2) (show Sr73.doing s .rank = (none, Sr73.say (-33)) from congrArg (Prod.mk none) (if_pos cc))
  · rw [fits_prO] at cc
    have cc : Sr73.fits s = true := by simpa using cc
    have es := step_none nb (show Sr73.doing s .rank = (none, Sr73.say ((Sr73.rank s : Nat) : Int)) from congrArg (Prod.mk none) (if_neg (by rw [cc]; simp)))
    (try unfold tNext)
    dsimp only
    refine sp_ret (ep_lstI (ea_i (ep_lenD (K := K) (ep_found (ep_var rfl (mo_anp _ _ _ e2 hv) mo_anp))) ea_in) (by simp)) fun v H3 e3 hv3 => ?_
    exact told_end q ho ((e1.trans e2).trans e3) (in_back (e1.trans e2) hv3) (by rw [es]) (by rw [es]; rfl)
end
end Sm


/-! # turns, most, take -/
namespace Sm
open PySem PySem.Spec PyProof.Rows L2 Evl
open Sr58 (Frac frac plus times whole)
open Sr66 (minus over zero neg)
section
variable {K : PySem.W.Frag} {σ : L2.St} {H : Hp} {ta tb tc : TE} {D : Ends} {tb' : TS} {R : PV}
/-- for x in a list that the walk's own expression gives -/
theorem sp_for_any {i : Nat} (ha : EvP ta σ H R) (k : ∀ v H1, Ex H H1 → R v H1 → ∃ (a : Addr) (xs : List V) (Pv : Nat → L2.St → Hp → Prop), v = .ref a ∧ Pv 0 σ H1 ∧ (∀ k σ H, Pv k σ H → SqL K H a xs) ∧
      (∀ k x σ H, xs[k]? = some x → Pv k σ H → tb' { D with nx := Pv (k + 1), ct := Pv (k + 1), bk := D.nx } (σ.set i (some x)) H) ∧ (∀ σ H, Pv xs.length σ H → D.nx σ H)) :
    tFor (iList K ta) (gName i) tb' D σ H := by
  refine ha.run fun v H1 e1 hv => ?_
  obtain ⟨a, xs, Pv, rfl, p0, hl, hs, hd⟩ := k v H1 e1 hv
  exact ⟨a, rfl, ⟨xs, hl 0 σ H1 p0⟩, for_list (K := K) (a := a) (xs := xs) Pv p0 (fun k σ H _ p => hl k σ H p) hs hd⟩
theorem sp_for_anyT {i : Nat} (ha : EvP ta σ H R) (k : ∀ v H1, Ex H H1 → R v H1 → ∃ (a : Addr) (xs : List V) (Pv : Nat → L2.St → Hp → Prop), v = .ref a ∧ Pv 0 σ H1 ∧ (∀ k σ H, Pv k σ H → SqT K H a xs) ∧
      (∀ k x σ H, xs[k]? = some x → Pv k σ H → tb' { D with nx := Pv (k + 1), ct := Pv (k + 1), bk := D.nx } (σ.set i (some x)) H) ∧ (∀ σ H, Pv xs.length σ H → D.nx σ H)) :
    tFor (iTup K ta) (gName i) tb' D σ H := by
  refine ha.run fun v H1 e1 hv => ?_
  obtain ⟨a, xs, Pv, rfl, p0, hl, hs, hd⟩ := k v H1 e1 hv
  exact ⟨a, rfl, ⟨xs, hl 0 σ H1 p0⟩, for_tup (K := K) (a := a) (xs := xs) Pv p0 (fun k σ H _ p => hl k σ H p) hs hd⟩
/-- xs.extend(t), t a fraction -/
theorem sp_extF {i j : Nat} {lt : Addr} {us : List V} {v : V} {x : Frac} (hi : σ[i]? = some (some (.ref lt))) (hl : H lt = some (.lst us)) (hj : σ[j]? = some (some v)) (hv : Fr K x v H) (hz : us.length ≤ 10000)
    (k : D.nx σ (upd H lt (.lst (us ++ [.int x.n, .int (x.d : Int)])))) : tDrop (tBM K "list" (rExtT K) (tVar i) (tCons (tVar j) tNil)) D σ H := by
  obtain ⟨b, rfl, sq⟩ := hv
  refine ⟨_, hi, .inl ⟨rfl, _, sq_of hl⟩, _, hj, lt, b, _, _, rfl, rfl, hl, sq, ?_, k⟩
  refine sz_of ?_
  show us.length + 2 ≤ _
  omega
/-- two fractions -/
def P2 (K : PySem.W.Frag) (y : Frac × Frac) : PV := fun v H => ∃ (t : Addr) (z1 z2 : V), v = .ref t ∧ SqT K H t [z1, z2] ∧ Fr K y.1 z1 H ∧ Fr K y.2 z2 H
theorem ep_two {x y : Frac} (ha : EvP ta σ H (Fr K x)) (hb : EvP tb σ H (Fr K y)) : EvP (tTup (tCons ta (tCons tb tNil))) σ H (P2 K (x, y)) :=
  ep_tup (A := AC (Fr K x) (AC (Fr K y) A0)) (ea_c ha mo_fr (ea_c hb mo_fr ea_n))
    (fun vs H ⟨_, _, e, _, _, _, e2, _, e3⟩ => by
      obtain rfl := e
      obtain rfl := e2
      obtain rfl : _ = [] := e3
      exact Nat.le_trans (by decide : 2 ≤ 100000) (by decide))
    fun t vs H H' ⟨_, _, e, ex, _, _, e2, ey, e3⟩ e4 h => by
      obtain rfl := e
      obtain rfl := e2
      obtain rfl : _ = [] := e3
      exact ⟨t, _, _, rfl, st_of h, mo_fr _ _ _ e4 ex, mo_fr _ _ _ e4 ey⟩
end
/-! ### turn -/
structure TnOk (f : List (List Frac × Frac)) (j : Nat) (s : Sr73.Means) : Prop where
  good : Good s
  fd : Fd s f (s.k + 1)
  fl : f.length = s.k + 1
  jk : j < s.k
structure TnIn (f : List (List Frac × Frac)) (j : Nat) (s : Sr73.Means) (y : List Frac × Frac) : Prop where
  e : f[j]? = some y
  ed : f.getD j ([], whole 1) = y
  np : NfL y.1
  mp : MprOk y.1 ([zero] ++ y.1) s.m
  nm : Nf (mpr y.1 ([zero] ++ y.1) s.m)
  sm : Sz 10000000 (mpr y.1 ([zero] ++ y.1) s.m)
  nh : Nf y.2
  sh : Sz 7600000 y.2
  ne : y.2.n ≠ 0
  l5 : y.1.length ≤ 5
theorem TnOk.inn {f : List (List Frac × Frac)} {j : Nat} {s : Sr73.Means} (h : TnOk f j s) {i : Nat} (hi : i ≤ j) : ∃ y, TnIn f i s y := by
  obtain ⟨hg, fd, fl, jk⟩ := h
  have k4 := hg.k4
  have hl := hg.len
  have e : f[i]? = some (f[i]'(by omega)) := List.getElem?_eq_getElem (by omega)
  generalize f[i]'(by omega) = y at e
  obtain ⟨pb, ey, pos, yl⟩ := fd.fnd.one i y e
  have yl2 := fd.full fl i y e
  have bzt := bz_le (t := i) (by omega)
  have s0 : SzL (bz i) ([zero] ++ y.1) := szl_cons0 (by
    have : ∀ t, 1 ≤ bz t := fun t => by
      induction t with
      | zero => exact Nat.le_refl _
      | succ t ih => show 1 ≤ 3 * bz t + 2007; omega
    exact this i) pb.sz
  have n0 := nf_cons0 pb.nf
  have l0 : ([zero] ++ y.1).length = y.1.length + 1 := by simp
  have h5 : y.1.length ≤ 5 := by omega
  have big : 1 + y.1.length * (bz i + (1 + ([zero] ++ y.1).length * (bz i + 200 + 1)) + 1) ≤ 10000000 := by
    have h1 := Nat.mul_le_mul (show ([zero] ++ y.1).length ≤ 6 by omega) (show bz i + 200 + 1 ≤ 250201 by omega)
    have h2 := Nat.mul_le_mul h5 (show bz i + (1 + ([zero] ++ y.1).length * (bz i + 200 + 1)) + 1 ≤ 1751210 by omega)
    omega
  refine ⟨y, e, ?_, pb.nf, mprOk_of pb.nf n0 hg.nf pb.sz s0 hg.sz (by omega) (by omega) (by omega) (by omega), (val_mprTo pb.nf n0 hg.nf _).2, (sz_mprTo pb.nf n0 hg.nf pb.sz s0 hg.sz _).mono big, ?_, ?_, by omega, h5⟩
  · rw [List.getD_eq_getElem?_getD, e]
    rfl
  · rw [ey]; exact nf_msq pb.nf hg.nf
  · rw [ey]; exact pb_szmsq hg pb (by omega) h5
section
variable {P : Program} {w : World} {K : PySem.W.Frag} {mg : Str → Option Value} {base : Heap}
def sp_turn (K : PySem.W.Frag) : Sp := spF (fun a : List (List Frac × Frac) × Nat × Sr73.Means => TnOk a.1 a.2.1 a.2.2)
  (fun a => AC (FdL K a.1) (AC (Is (.int (a.2.1 : Int))) (AC (FrL K a.2.2.m) A0))) (fun a => P2 K (turnAt a.1 a.2.2.m a.2.1))
theorem ok_turn (T : Txt K mg) (B : Bs P base) : FnOk P w K mg base CX0 45 T.turn.f T.turn.fd ["found", "power", "means"] (sp_turn K) := by
  refine ok_spF T.turn sc_turn (fun a vs H h => len3 h) fun cdv Ar outer s0 H Q E a vs hr hp ha q => ?_
  obtain ⟨f, j, s⟩ := a
  obtain ⟨vf, _, rfl, hf, _, _, rfl, rfl, vm, _, rfl, hm, rfl⟩ := ha
  have hp : TnOk f j s := hp
  have hf : FdL K f vf H := hf
  have hm : FrL K s.m vm H := hm
  obtain ⟨y, e, ed, np, mp, nm, sm, nh, sh, ne, l5⟩ := hp.inn (Nat.le_refl j)
  refine ⟨_, (pss_cons (ps_set (i := 3) sc_turn.nd rfl (Or.inl rfl) (pe_ix ix_tup (pe_ix ix_list (pv 0) (pv 1) (fun _ _ => rfl)) pe_int (fun _ _ => rfl)))
      (pss_cons (ps_set (i := 4) sc_turn.nd rfl (Or.inl rfl) (pe_ix ix_tup (pe_ix ix_list (pv 0) (pv 1) (fun _ _ => rfl)) pe_int (fun _ _ => rfl)))
      (pss_cons (ps_set (i := 5) sc_turn.nd rfl (Or.inl rfl) (pe_df T.divided (ok_divided T B) hr (pa_cons (pe_df T.mean_of_product (ok_mean_of_product T B) hr (pa_cons (pv 3) (pa_cons (pe_op op_cat (pe_lst (pa_cons (pe_glob (by rfl) T.ZERO.g T.ZERO.r) pa_nil)) (pv 3)) (pa_cons (pv 2) pa_nil)))) (pa_cons (pv 4) pa_nil))))
      (pss_cons (ps_set (i := 6) sc_turn.nd rfl (Or.inl rfl) (pe_glob (by rfl) T.ZERO.g T.ZERO.r))
      (pss_cons (ps_if (pt_cmpR op_gt (pv 1) pe_int (nomark _)) (pss_one (ps_set (i := 6) sc_turn.nd rfl (Or.inl rfl) (pe_df T.divided (ok_divided T B) hr (pa_cons (pv 4) (pa_cons (pe_ix ix_tup (pe_ix ix_list (pv 0) (pe_op op_sub (pv 1) pe_int) (fun _ _ => rfl)) pe_int (fun _ _ => rfl)) pa_nil))))) pss_nil)
      (pss_one (ps_ret (pe_tup (pa_cons (pv 5) (pa_cons (pv 6) pa_nil)))))))))), ?_⟩
  have vF : ∀ {H1 : Hp} {σ : L2.St}, Ex H H1 → σ[0]? = some (some vf) → EvP (tVar 0) σ H1 (FdL K f) := fun e h => ep_var h (mo_fdl _ _ _ e hf) mo_fdl
  have vM : ∀ {H1 : Hp} {σ : L2.St}, Ex H H1 → σ[2]? = some (some vm) → EvP (tVar 2) σ H1 (FrL K s.m) := fun e h => ep_var h (mo_frl _ _ _ e hm) mo_frl
  refine sp_asg (ep_pq0 (y := y) (ep_ixD (vF (Ex.refl _) rfl) (ep_v rfl) e)) fun vp H1 e1 hvp => ?_
  dsimp only
  refine sp_asg (ep_pq1 (y := y) (ep_ixD (vF e1 rfl) (ep_v rfl) e)) fun vz H2 e2 hvz => ?_
  have e12 := e1.trans e2
  dsimp only
  have vP : ∀ {H3 : Hp} {σ : L2.St}, Ex H2 H3 → σ[3]? = some (some vp) → EvP (tVar 3) σ H3 (FrL K y.1) := fun e h => ep_var h (mo_frl _ _ _ (e2.trans e) hvp) mo_frl
  have vZ : ∀ {H3 : Hp} {σ : L2.St}, Ex H2 H3 → σ[4]? = some (some vz) → EvP (tVar 4) σ H3 (Fr K y.2) := fun e h => ep_var h (mo_fr _ _ _ e hvz) mo_fr
  refine sp_asg (ec_div (ec_mpr (vP (Ex.refl _) rfl) (ep_frl (ep_cat (xs := [zero]) (ep_frl (ep_lst1 (ep_cR (fr_ZERO T)))) (vP (Ex.refl _) rfl) (by simp; omega))) (vM e12 rfl) mp) (vZ (Ex.refl _) rfl) (fi_of nm sm (by decide)) (fi_of nh sh (by decide)) ne) fun vi H3 e3 hvi => ?_
  dsimp only
  refine sp_asg (ep_cR (R := Fr K zero) (fr_ZERO T)) fun vb H4 e4 hvb => ?_
  dsimp only
  have e34 := e3.trans e4
  have et : turnAt f s.m j = (over (mpr y.1 ([zero] ++ y.1) s.m) y.2, if j = 0 then zero else over y.2 (f.getD (j - 1) ([], whole 1)).2) := by
    unfold turnAt
    rw [ed]
  refine sp_if (et_t (ep_gt (ep_v rfl) ep_c)) (fun cc H5 e5 => ?_) fun cc H5 e5 => ?_
  · have j0 : 0 < j := by
      have : (0 : Int) < (j : Int) := of_decide_eq_true cc
      omega
    obtain ⟨y', e', ed', np', mp', nm', sm', nh', sh', ne', l5'⟩ := hp.inn (i := j - 1) (by omega)
    have ej : (j : Int) - 1 = ((j - 1 : Nat) : Int) := by omega
    refine sp_asg (ec_div (vZ (e34.trans e5) rfl) (ep_pq1 (y := y') (ep_ixD (vF ((e12.trans e34).trans e5) rfl) ((ep_sub (ep_v rfl) ep_c).to (by rw [ej])) e')) (fi_of nh sh (by decide)) (fi_of nh' sh' (by decide)) ne') fun vb' H6 e6 hvb' => ?_
    dsimp only
    refine sp_ret (ep_two (ep_var rfl (mo_fr _ _ _ ((e4.trans e5).trans e6) hvi) mo_fr) (ep_var rfl hvb' mo_fr)) fun v H7 e7 hv => q v H7 ((((e12.trans e34).trans e5).trans e6).trans e7) ?_
    show P2 K (turnAt f s.m j) v H7
    rw [et, if_neg (by omega), ed']
    exact hv
  · have j0 : j = 0 := by
      have : ¬ (0 : Int) < (j : Int) := of_decide_eq_false cc
      omega
    (try unfold tNext)
    dsimp only
    refine sp_ret (ep_two (ep_var rfl (mo_fr _ _ _ (e4.trans e5) hvi) mo_fr) (ep_var rfl (mo_fr _ _ _ e5 hvb) mo_fr)) fun v H7 e7 hv => q v H7 (((e12.trans e34).trans e5).trans e7) ?_
    show P2 K (turnAt f s.m j) v H7
    rw [et, if_pos j0]
    exact hv
def fr2 (y : Frac × Frac) : List Int := Sr66.fr y.1 ++ Sr66.fr y.2
theorem fr2_len (m : List (Frac × Frac)) : (m.flatMap fr2).length = 4 * m.length := by
  induction m with
  | nil => rfl
  | cons x r ih =>
    rw [List.flatMap_cons, List.length_append, ih]
    show 4 + _ = _
    rw [List.length_cons]
    omega
def ok_turns_ : Sr73.State → List Int → List Int → Sr73.Call → Prop := fun st _ _ c => ∃ s, st = some s ∧ c = .turns
theorem ok_tell_turns (T : Txt K mg) (B : Bs P base) : FnOk P w K mg base CX0 50 T.tell_turns.f T.tell_turns.fd ["spread", "numbers", "row"] (spC T ok_turns_) := by
  refine ok_spC T.tell_turns sc_tell_turns fun cdv Ar outer s0 H Q E a l ln lr ns row z c hr ho hn hw hg hc q => ?_
  obtain ⟨s, rfl, rfl⟩ := hc
  have hg : Good s := hg
  have nb : ∀ k, Sr73.Call.turns ≠ .begin_ k := fun k z => by cases z
  have k4 := hg.k4
  refine ⟨_, (pss_cons (ps_set (i := 3) sc_tell_turns.nd rfl (Or.inl rfl) (pe_df T.angles_of (ok_angles_of T B) hr (pa_cons (pv 0) pa_nil)))
      (pss_cons (ps_if (pt_not (pt_val (pe_df T.fits_strictly (ok_fits_strictly T B) hr (pa_cons (pv 3) (pa_cons (pe_fld (pv 0) (by rfl)) pa_nil))))) (pss_one (ps_ret (pe_lst (pa_cons (pe_glob (by rfl) T.NOT_TOLD.g T.NOT_TOLD.r) pa_nil)))) pss_nil)
      (pss_cons (ps_set (i := 4) sc_tell_turns.nd rfl (Or.inl rfl) (pe_lst (pa_cons (pe_fld (pv 0) (by rfl)) pa_nil)))
      (pss_cons (ps_for PassesOwn.never (by rfl) (pi_range1 (by rfl) T.range (pa_cons (pe_fld (pv 0) (by rfl)) pa_nil)) (pg_name (i := 5) sc_tell_turns.nd rfl (Or.inl rfl)) (pss_one (ps_for PassesOwn.never (by rfl) (pi_tup (pe_df T.turn (ok_turn T B) hr (pa_cons (pe_fld (pv 3) (by rfl)) (pa_cons (pv 5) (pa_cons (pe_fld (pv 0) (by rfl)) pa_nil))))) (pg_name (i := 6) sc_tell_turns.nd rfl (Or.inl rfl)) (pss_one (ps_expr (pe_bm PySem.F.plainAttrs_list PySem.F.slot_list_extend PySem.F.type_list_extend mt_extT (pv 4) (pa_cons (pv 6) pa_nil)))))))
      (pss_one (ps_ret (pv 4))))))), ?_⟩
  refine sp_asg (ec_angles (ep_v rfl) ho hg) fun va H1 e1 hv => ?_
  have ho1 := ho.mono e1
  dsimp only
  refine sp_if (et_not' (et_b ((ec_strict (ep_var rfl hv mo_anp) (ep_kk (ep_v rfl) ho1)).to (by rw [strict_dec hg])))) (fun cc H2 e2 => ?_) fun cc H2 e2 => ?_
  · have cc : Sr73.strict s = false := by simpa using cc
    exact told_no rfl nb q ho (e1.trans e2) (show Sr73.doing s .turns = (none, Sr73.say (-33)) from congrArg (Prod.mk none) (if_pos cc))
  have cc : Sr73.strict s = true := by simpa using cc
  have ets := turns_is hg.mb k4 cc
  obtain ⟨hfd, hfl⟩ := strict_fd hg.mb (by omega) cc
  have es := step_none nb (show Sr73.doing s .turns = (none, ⟨(s.k : Int), (Sr73.turnsOf s).flatMap fun y => Sr66.fr y.1 ++ Sr66.fr y.2⟩) from congrArg (Prod.mk none) (if_neg (by rw [cc]; simp)))
  have e12 := e1.trans e2
  (try unfold tNext)
  dsimp only
  refine sp_asg (ep_lstI (ea_i (ep_kk (ep_v rfl) (ho.mono e12)) ea_in) (by simp)) fun v H3 e3 hv3 => ?_
  obtain ⟨lt, rfl, nt2, ht⟩ := hv3
  have nt := none_back e12 nt2
  have e13 := e12.trans e3
  dsimp only
  refine sp_for_range (n := s.k) (ep_kk (ep_v rfl) (ho.mono e13)) (by omega) (fun k σ H' => ∃ vj vo, σ = [some (.ref a), some (.ref ln), some (.ref lr), some va, some (.ref lt), vj, vo] ∧ Ex H2 H' ∧
    H' lt = some (.lst (((s.k : Int) :: ((List.range k).map (turnAt (Sr73.looked s).1 s.m)).flatMap fr2).map V.int)) ∧ k ≤ s.k) ?_ ?_ ?_
  · intro H4 e4
    exact ⟨none, none, rfl, e3.trans e4, e4 _ _ ht, Nat.zero_le _⟩
  · rintro k σ H4 hk ⟨vj, vo, rfl, e4, hl4, _⟩
    have ho4 := ho.mono (e12.trans e4)
    have hv4 := mo_anp _ _ _ (e2.trans e4) hv
    refine sp_for_anyT (K := K) (R := P2 K (turnAt (Sr73.looked s).1 s.m k)) (ep_call (R := fun a : List (List Frac × Frac) × Nat × Sr73.Means => P2 K (turnAt a.1 a.2.2.m a.2.1)) ((Sr73.looked s).1, k, s) ⟨hg, hfd, hfl, hk⟩ (ea_c (ep_found (ep_var rfl hv4 mo_anp)) mo_fdl (ea_c (ep_v rfl) (mo_is _) (ea_c (ep_means (ep_v rfl) ho4) mo_frl ea_n)))) fun v H5 e5 hv5 => ?_
    obtain ⟨t, z1, z2, rfl, ht5, hz1, hz2⟩ := hv5
    refine ⟨t, [z1, z2], fun n σ H' => ∃ vo, σ = [some (.ref a), some (.ref ln), some (.ref lr), some va, some (.ref lt), some (.int (k : Int)), vo] ∧ Ex H2 H' ∧ SqT K H' t [z1, z2] ∧
      Fr K (turnAt (Sr73.looked s).1 s.m k).1 z1 H' ∧ Fr K (turnAt (Sr73.looked s).1 s.m k).2 z2 H' ∧
      H' lt = some (.lst (((s.k : Int) :: (((List.range k).map (turnAt (Sr73.looked s).1 s.m)).flatMap fr2 ++ (fr2 (turnAt (Sr73.looked s).1 s.m k)).take (2 * n))).map V.int)), rfl, ?_, ?_, ?_, ?_⟩
    · refine ⟨vo, rfl, e4.trans e5, ht5, hz1, hz2, ?_⟩
      rw [e5 _ _ hl4]
      simp
    · rintro n σ H6 ⟨vo, rfl, e6, ht6, _⟩
      exact ht6
    · rintro n x σ H6 hx ⟨vo, rfl, e6, ht6, h1, h2, hl6⟩
      have fx : ∃ y : Frac, Fr K y x H6 ∧ (fr2 (turnAt (Sr73.looked s).1 s.m k)).take (2 * (n + 1)) = (fr2 (turnAt (Sr73.looked s).1 s.m k)).take (2 * n) ++ Sr66.fr y := by
        match n, hx with
        | 0, hx =>
          obtain rfl := Option.some.inj hx
          exact ⟨_, h1, rfl⟩
        | 1, hx =>
          obtain rfl := Option.some.inj hx
          exact ⟨_, h2, rfl⟩
        | n + 2, hx => simp at hx
      obtain ⟨y, fy, ey⟩ := fx
      have hlen : ((((s.k : Int) :: (((List.range k).map (turnAt (Sr73.looked s).1 s.m)).flatMap fr2 ++ (fr2 (turnAt (Sr73.looked s).1 s.m k)).take (2 * n))).map V.int)).length ≤ 10000 := by
        rw [List.length_map, List.length_cons, List.length_append, fr2_len, List.length_map, List.length_range, List.length_take]
        have : (fr2 (turnAt (Sr73.looked s).1 s.m k)).length = 4 := rfl
        omega
      refine sp_extF (K := K) (x := y) rfl hl6 rfl fy hlen ?_
      refine ⟨some x, rfl, Ex.mut e6 nt2, sqt_upd hl6 (fun _ z => by cases z) (fun _ _ z => by cases z) ht6, fr_upd hl6 h1, fr_upd hl6 h2, ?_⟩
      rw [upd_same, ey]
      simp [Sr66.fr]
    · rintro σ H6 ⟨vo, rfl, e6, ht6, h1, h2, hl6⟩
      refine ⟨_, _, rfl, e6, ?_, by omega⟩
      rw [hl6, List.range_succ, List.map_append, List.flatMap_append]
      have : (fr2 (turnAt (Sr73.looked s).1 s.m k)).take (2 * [z1, z2].length) = fr2 (turnAt (Sr73.looked s).1 s.m k) := rfl
      rw [this]
      simp
  · rintro σ H4 ⟨vj, vo, rfl, e4, hl4, _⟩
    dsimp only
    refine sp_ret (ep_v rfl) fun v H5 e5 hv5 => ?_
    obtain rfl : v = _ := hv5
    refine told_end q ho ((e12.trans e4).trans e5) ⟨lt, rfl, nt, e5 _ _ hl4⟩ (by rw [es]) ?_
    rw [es, ets]
    rfl
end
end Sm


/-! # most, take, zeros -/
namespace Sm
open PySem PySem.Spec PyProof.Rows L2 Evl
open Sr58 (Frac frac plus times whole)
open Sr66 (minus over zero neg)
theorem MoY.fv {x : Frac} {y : List Frac × Frac} (h : MoY x y) : Fi (Sr71.valueAt y.1 x) := fi_of h.nv h.sv (by decide)
structure MsOk (f : List (List Frac × Frac)) (x : Frac) : Prop where
  l5 : f.length ≤ 5
  ys : ∀ y ∈ f, MoY x y ∧ VaOk y.1 x
  pos : 0 < (moTo f x f.length).n
theorem msOk_strict {s : Sr73.Means} (hg : Good s) (hs : Sr73.strict s = true) {x : Frac} (hx : Nf x) (sx : Sz 10 x) : MsOk (Sr73.looked s).1 x := by
  have k4 := hg.k4
  have my := strict_moY hg.mb k4 hg.len hg.sz hs hx sx
  obtain ⟨h, hfl⟩ := strict_fd hg.mb (by omega) hs
  obtain ⟨y0, e0, h0⟩ := strict_first hg.mb k4 hs
  refine ⟨by omega, fun y hy => ⟨my y hy, ?_⟩, moTo_pos my e0 (h0 x hx)⟩
  obtain ⟨t, ht, e⟩ := List.mem_iff_getElem.mp hy
  have e : (Sr73.looked s).1[t]? = some y := by rw [List.getElem?_eq_getElem ht, e]
  obtain ⟨pb, ey, pos, yl⟩ := h.fnd.one t y e
  have fl := h.full hfl t y e
  have bzt := bz_le (t := t) (by omega)
  refine vaOk_of pb.nf hx pb.sz sx ?_
  have := Nat.mul_le_mul (show y.1.length ≤ 5 by omega) (show bz t + 10 + 1 ≤ 250011 by omega)
  omega
section
variable {P : Program} {w : World} {K : PySem.W.Frag} {mg : Str → Option Value} {base : Heap}
def sp_most_at (K : PySem.W.Frag) : Sp := spF (fun a : List (List Frac × Frac) × Frac => MsOk a.1 a.2)
  (fun a => AC (FdL K a.1) (AC (Fr K a.2) A0)) (fun a => Fr K (over (whole 1) (moTo a.1 a.2 a.1.length)))
theorem ok_most_at (T : Txt K mg) (B : Bs P base) : FnOk P w K mg base CX0 44 T.most_at.f T.most_at.fd ["found", "place"] (sp_most_at K) := by
  refine ok_spF T.most_at sc_most_at (fun a vs H h => len2 h) fun cdv Ar outer s0 H Q E a vs hr hp ha q => ?_
  obtain ⟨f, x⟩ := a
  obtain ⟨vf, _, rfl, hf, vx, _, rfl, hx, rfl⟩ := ha
  obtain ⟨l5, ys, pos⟩ : MsOk f x := hp
  have hx : Fr K x vx H := hx
  obtain ⟨lf, us, rfl, hlf, al⟩ := hf
  have al : Al (Pr K lf) H us f := al
  have ok := moTo_ok (x := x) (fun y hy => (ys y hy).1)
  refine ⟨_, (pss_cons (ps_set (i := 2) sc_most_at.nd rfl (Or.inl rfl) (pe_glob (by rfl) T.ZERO.g T.ZERO.r))
      (pss_cons (ps_for PassesOwn.never (by rfl) (pi_list (pv 0)) (pg_name (i := 3) sc_most_at.nd rfl (Or.inl rfl)) (pss_cons (ps_set (i := 4) sc_most_at.nd rfl (Or.inl rfl) (pe_df T.value_at (ok_value_at T B) hr (pa_cons (pe_ix ix_tup (pv 3) pe_int (fun _ _ => rfl)) (pa_cons (pv 1) pa_nil))))
      (pss_one (ps_set (i := 2) sc_most_at.nd rfl (Or.inl rfl) (pe_df T.plus (ok_plus T B) hr (pa_cons (pv 2) (pa_cons (pe_df T.divided (ok_divided T B) hr (pa_cons (pe_df T.times (ok_times T B) hr (pa_cons (pv 4) (pa_cons (pv 4) pa_nil))) (pa_cons (pe_ix ix_tup (pv 3) pe_int (fun _ _ => rfl)) pa_nil))) pa_nil)))))))
      (pss_one (ps_ret (pe_df T.divided (ok_divided T B) hr (pa_cons (pe_glob (by rfl) T.ONE.g T.ONE.r) (pa_cons (pv 2) pa_nil))))))), ?_⟩
  refine sp_asg (ep_cR (R := Fr K zero) (fr_ZERO T)) fun v0 H0 e0 h0 => ?_
  refine sp_for_list (K := K) (a := lf) (xs := us) (ep_v rfl) (fun k σ H' => ∃ vt x3 x4, σ = [some (.ref lf), some vx, some vt, x3, x4] ∧ Ex H H' ∧ Fr K (moTo f x k) vt H' ∧ k ≤ f.length) ?_ ?_ ?_ ?_
  · intro H1 e1
    exact ⟨v0, none, none, rfl, e0.trans e1, mo_fr _ _ _ e1 h0, Nat.zero_le _⟩
  · rintro k σ H1 ⟨vt, x3, x4, rfl, e1, _⟩
    exact sq_of (e1 _ _ hlf)
  · rintro k y σ H1 hy ⟨vt, x3, x4, rfl, e1, ht, _⟩
    have hk' : k < f.length := by
      rw [← al.len]
      exact (List.getElem?_eq_some_iff.mp hy).1
    have ef : f[k]? = some f[k] := List.getElem?_eq_getElem hk'
    have hmem : f[k] ∈ f := List.getElem_mem hk'
    generalize f[k] = p at ef hmem
    obtain ⟨my, va⟩ := ys p hmem
    obtain ⟨g1, g2, g3⟩ := my.g
    obtain ⟨m1, m2, m3⟩ := ok k (by omega)
    have ne : p.2.n ≠ 0 := by have := my.ph; omega
    obtain ⟨y', hy', pr⟩ := (al.mono (fun _ => mo_pr) e1).at ef
    rw [hy] at hy'
    obtain rfl := Option.some.inj hy'
    have vY : ∀ {H3 : Hp} {σ : L2.St} {i : Nat}, Ex H1 H3 → σ[i]? = some (some y) → EvP (tVar i) σ H3 (Pq K p) := fun e h => ep_var h (mo_pq _ _ _ e (pr_pq pr)) mo_pq
    refine sp_asg (ec_value (ep_pq0 (y := p) (vY (Ex.refl _) rfl)) (ep_var rfl (mo_fr _ _ _ e1 hx) mo_fr) va) fun vv H2 e2 hvv => ?_
    dsimp only
    have sv := sz_times my.nv my.nv my.sv my.sv
    refine sp_asg (ec_plus (y := moG x p) (ep_var rfl (mo_fr _ _ _ e2 ht) mo_fr) (ec_div (ec_times (ep_var rfl hvv mo_fr) (ep_var rfl hvv mo_fr) my.fv my.fv) (ep_pq1 (y := p) (vY e2 rfl)) (fi_of (nf_times my.nv my.nv) sv (by decide)) (fi_of my.nh my.sh (by decide)) ne)
      (fi_of m1 m2 (by omega)) (fi_of g1 g2 (by decide))) fun vt' H3 e3 hvt => ?_
    refine ⟨vt', _, _, rfl, (e1.trans e2).trans e3, ?_, hk'⟩
    rw [moTo_succ ef]
    exact hvt
  · rintro σ H1 ⟨vt, x3, x4, rfl, e1, ht, _⟩
    rw [al.len] at ht
    obtain ⟨m1, m2, m3⟩ := ok f.length (Nat.le_refl _)
    dsimp only
    exact sp_ret (ec_div (ep_cR (fr_ONE T)) (ep_var rfl ht mo_fr) (fi_of (nf_whole 1) sz_one (by decide)) (fi_of m1 m2 (by omega)) (by omega)) fun v H2 e2 hv => q v H2 (e1.trans e2) hv
theorem ec_most {σ : L2.St} {H : Hp} {ta tb : TE} {s : Sr73.Means} {x : Frac} (ha : EvP ta σ H (FdL K (Sr73.looked s).1)) (hb : EvP tb σ H (Fr K x)) (h : MsOk (Sr73.looked s).1 x) : EvP (tCall (sp_most_at K) [] E0 (tCons ta (tCons tb tNil))) σ H (Fr K (Sr73.most s x)) := by
  rw [most_is]
  exact ep_call (R := fun a : List (List Frac × Frac) × Frac => Fr K (over (whole 1) (moTo a.1 a.2 a.1.length))) (A := fun a : List (List Frac × Frac) × Frac => AC (FdL K a.1) (AC (Fr K a.2) A0)) ((Sr73.looked s).1, x) h (ea_c ha mo_fdl (ea_c hb mo_fr ea_n))
def ok_most_ : Sr73.State → List Int → List Int → Sr73.Call → Prop := fun st ns _ c => ∃ s a b, st = some s ∧ ns = [a, b] ∧ c = .most a b
theorem ok_tell_most (T : Txt K mg) (B : Bs P base) : FnOk P w K mg base CX0 50 T.tell_most.f T.tell_most.fd ["spread", "numbers", "row"] (spC T ok_most_) := by
  refine ok_spC T.tell_most sc_tell_most fun cdv Ar outer s0 H Q E a l ln lr ns row z c hr ho hn hw hg hc q => ?_
  obtain ⟨s, n0, n1, rfl, rfl, rfl⟩ := hc
  have hg : Good s := hg
  have nb : ∀ k, Sr73.Call.most n0 n1 ≠ .begin_ k := fun k z => by cases z
  have k4 := hg.k4
  refine ⟨_, (pss_cons (ps_if (pt_not (pt_val (pe_df T.is_small_fraction (ok_is_small_fraction T B) hr (pa_cons (pe_ix ix_list (pv 1) pe_int (fun _ _ => rfl)) (pa_cons (pe_ix ix_list (pv 1) pe_int (fun _ _ => rfl)) pa_nil))))) (pss_one (ps_ret (pe_lst (pa_cons (pe_glob (by rfl) T.NOT_TAKEN.g T.NOT_TAKEN.r) pa_nil)))) pss_nil)
      (pss_cons (ps_set (i := 3) sc_tell_most.nd rfl (Or.inl rfl) (pe_df T.angles_of (ok_angles_of T B) hr (pa_cons (pv 0) pa_nil)))
      (pss_cons (ps_if (pt_not (pt_val (pe_df T.fits_strictly (ok_fits_strictly T B) hr (pa_cons (pv 3) (pa_cons (pe_fld (pv 0) (by rfl)) pa_nil))))) (pss_one (ps_ret (pe_lst (pa_cons (pe_glob (by rfl) T.NOT_TOLD.g T.NOT_TOLD.r) pa_nil)))) pss_nil)
      (pss_one (ps_ret (pe_df T.with_fractions (ok_with_fractions T B) hr (pa_cons pe_int (pa_cons (pe_lst (pa_cons (pe_df T.most_at (ok_most_at T B) hr (pa_cons (pe_fld (pv 3) (by rfl)) (pa_cons (pe_df T.fraction (ok_fraction T B) hr (pa_cons (pe_ix ix_list (pv 1) pe_int (fun _ _ => rfl)) (pa_cons (pe_ix ix_list (pv 1) pe_int (fun _ _ => rfl)) pa_nil))) pa_nil))) pa_nil)) pa_nil)))))))), ?_⟩
  have vN : ∀ {H1 : Hp} {σ : L2.St}, Ex H H1 → σ[1]? = some (some (.ref ln)) → EvP (tVar 1) σ H1 (IL [n0, n1]) := fun e h => ep_var h ⟨ln, rfl, e _ _ hn⟩ mo_il
  have x0 : ∀ {H1 : Hp} {σ : L2.St}, Ex H H1 → σ[1]? = some (some (.ref ln)) → EvP (tOp (rIxL K) (tVar 1) (tC (.int 0))) σ H1 (Is (.int n0)) := fun e h => ep_ixI (K := K) (i := 0) (vN e h) ep_c rfl
  have x1 : ∀ {H1 : Hp} {σ : L2.St}, Ex H H1 → σ[1]? = some (some (.ref ln)) → EvP (tOp (rIxL K) (tVar 1) (tC (.int 1))) σ H1 (Is (.int n1)) := fun e h => ep_ixI (K := K) (i := 1) (vN e h) ep_c rfl
  refine sp_if (et_not' (et_b (ec_small (x0 (Ex.refl _) rfl) (x1 (Ex.refl _) rfl)))) (fun cc H1 e1 => ?_) fun cc H1 e1 => ?_
  · have bad : Sr73.okF n0 n1 = false := by simpa using cc
    exact told_no rfl nb q ho e1 (show Sr73.doing s (.most n0 n1) = (none, Sr73.say (-22)) from congrArg (Prod.mk none) (if_pos bad))
  have g1 : Sr73.okF n0 n1 = true := by simpa using cc
  have ok1 : ¬ (Sr73.okF n0 n1 = false) := by rw [g1]; simp
  obtain ⟨d, rfl, hd, nx, sx⟩ := okF_sz g1
  (try unfold tNext)
  dsimp only
  refine sp_asg (ec_angles (ep_v rfl) (ho.mono e1) hg) fun va H2 e2 hv => ?_
  have e12 := e1.trans e2
  dsimp only
  refine sp_if (et_not' (et_b ((ec_strict (ep_var rfl hv mo_anp) (ep_kk (ep_v rfl) (ho.mono e12))).to (by rw [strict_dec hg])))) (fun c2 H3 e3 => ?_) fun c2 H3 e3 => ?_
  · have c2 : Sr73.strict s = false := by simpa using c2
    exact told_no rfl nb q ho (e12.trans e3) (show Sr73.doing s (.most n0 (d : Int)) = (none, Sr73.say (-33)) from congrArg (Prod.mk none) ((if_neg ok1).trans (if_pos c2)))
  have c2 : Sr73.strict s = true := by simpa using c2
  have es := step_none nb (show Sr73.doing s (.most n0 (d : Int)) = (none, Sr73.tell (Sr73.most s (frac n0 d))) from congrArg (Prod.mk none) ((if_neg ok1).trans ((if_neg (by rw [c2]; simp)).trans (by rw [Int.toNat_natCast]))))
  have e13 := e12.trans e3
  (try unfold tNext)
  dsimp only
  refine sp_ret (ep_wf ep_c (ep_frl (ep_lst1 (x := Sr73.most s (frac n0 d)) (ec_most (ep_found (ep_var rfl (mo_anp _ _ _ e3 hv) mo_anp)) (ec_frac (x0 e13 rfl) (x1 e13 rfl) hd) (msOk_strict hg c2 nx sx)))) (by simp)) fun v H4 e4 hv4 => ?_
  exact told_end q ho (e13.trans e4) (in_back e13 hv4) (by rw [es]) (by rw [es]; rfl)
theorem nf_sz_most {s : Sr73.Means} {x : Frac} (h : MsOk (Sr73.looked s).1 x) : Nf (Sr73.most s x) ∧ Sz 50000000 (Sr73.most s x) := by
  obtain ⟨l5, ys, pos⟩ := h
  obtain ⟨m1, m2, m3⟩ := moTo_ok (x := x) (fun y hy => (ys y hy).1) _ (Nat.le_refl _)
  have ne : (moTo (Sr73.looked s).1 x (Sr73.looked s).1.length).n ≠ 0 := by omega
  rw [most_is]
  refine ⟨nf_over (nf_whole 1) ne, (sz_over (nf_whole 1) ne sz_one m2).mono ?_⟩
  have := Nat.mul_le_mul_right 8404001 l5
  omega
theorem minus_zero {x : Frac} (hx : Nf x) : minus zero x = neg x := by
  refine val_inj (nf_minus nf_zero hx) (nf_neg hx) ?_
  rw [val_minus nf_zero hx, val_neg, val_zero]
  grind
def ok_take_ : Sr73.State → List Int → List Int → Sr73.Call → Prop := fun st ns _ c => ∃ s a b, st = some s ∧ ns = [a, b] ∧ c = .take a b
theorem ok_take (T : Txt K mg) (B : Bs P base) : FnOk P w K mg base CX0 50 T.take.f T.take.fd ["spread", "numbers", "row"] (spC T ok_take_) := by
  refine ok_spC T.take sc_take fun cdv Ar outer s0 H Q E a l ln lr ns row z c hr ho hn hw hg hc q => ?_
  obtain ⟨s, n0, n1, rfl, rfl, rfl⟩ := hc
  have hg : Good s := hg
  have nb : ∀ k, Sr73.Call.take n0 n1 ≠ .begin_ k := fun k z => by cases z
  have k4 := hg.k4
  refine ⟨_, (pss_cons (ps_if (pt_not (pt_val (pe_df T.is_small_fraction (ok_is_small_fraction T B) hr (pa_cons (pe_ix ix_list (pv 1) pe_int (fun _ _ => rfl)) (pa_cons (pe_ix ix_list (pv 1) pe_int (fun _ _ => rfl)) pa_nil))))) (pss_one (ps_ret (pe_lst (pa_cons (pe_glob (by rfl) T.NOT_TAKEN.g T.NOT_TAKEN.r) pa_nil)))) pss_nil)
      (pss_cons (ps_set (i := 3) sc_take.nd rfl (Or.inl rfl) (pe_df T.angles_of (ok_angles_of T B) hr (pa_cons (pv 0) pa_nil)))
      (pss_cons (ps_if (pt_not (pt_val (pe_df T.fits_strictly (ok_fits_strictly T B) hr (pa_cons (pv 3) (pa_cons (pe_fld (pv 0) (by rfl)) pa_nil))))) (pss_one (ps_ret (pe_lst (pa_cons (pe_glob (by rfl) T.NOT_TOLD.g T.NOT_TOLD.r) pa_nil)))) pss_nil)
      (pss_cons (ps_set (i := 4) sc_take.nd rfl (Or.inl rfl) (pe_df T.fraction (ok_fraction T B) hr (pa_cons (pe_ix ix_list (pv 1) pe_int (fun _ _ => rfl)) (pa_cons (pe_ix ix_list (pv 1) pe_int (fun _ _ => rfl)) pa_nil))))
      (pss_cons (ps_set (i := 5) sc_take.nd rfl (Or.inl rfl) (pe_df T.most_at (ok_most_at T B) hr (pa_cons (pe_fld (pv 3) (by rfl)) (pa_cons (pv 4) pa_nil))))
      (pss_cons (ps_if (pt_not (pt_val (pe_df T.keep_unless_long (ok_keep_unless_long T B) hr (pa_cons (pv 0) (pa_cons (pe_df T.with_point (ok_with_point T B) hr (pa_cons (pe_fld (pv 0) (by rfl)) (pa_cons (pv 4) (pa_cons (pe_df T.less (ok_less T B) hr (pa_cons (pe_glob (by rfl) T.ZERO.g T.ZERO.r) (pa_cons (pv 5) pa_nil))) pa_nil)))) pa_nil))))) (pss_one (ps_ret (pe_lst (pa_cons (pe_glob (by rfl) T.TOO_LONG.g T.TOO_LONG.r) pa_nil)))) pss_nil)
      (pss_one (ps_ret (pe_df T.with_fractions (ok_with_fractions T B) hr (pa_cons pe_int (pa_cons (pe_lst (pa_cons (pv 5) pa_nil)) pa_nil))))))))))), ?_⟩
  have vN : ∀ {H1 : Hp} {σ : L2.St}, Ex H H1 → σ[1]? = some (some (.ref ln)) → EvP (tVar 1) σ H1 (IL [n0, n1]) := fun e h => ep_var h ⟨ln, rfl, e _ _ hn⟩ mo_il
  have x0 : ∀ {H1 : Hp} {σ : L2.St}, Ex H H1 → σ[1]? = some (some (.ref ln)) → EvP (tOp (rIxL K) (tVar 1) (tC (.int 0))) σ H1 (Is (.int n0)) := fun e h => ep_ixI (K := K) (i := 0) (vN e h) ep_c rfl
  have x1 : ∀ {H1 : Hp} {σ : L2.St}, Ex H H1 → σ[1]? = some (some (.ref ln)) → EvP (tOp (rIxL K) (tVar 1) (tC (.int 1))) σ H1 (Is (.int n1)) := fun e h => ep_ixI (K := K) (i := 1) (vN e h) ep_c rfl
  refine sp_if (et_not' (et_b (ec_small (x0 (Ex.refl _) rfl) (x1 (Ex.refl _) rfl)))) (fun cc H1 e1 => ?_) fun cc H1 e1 => ?_
  · have bad : Sr73.okF n0 n1 = false := by simpa using cc
    exact told_no rfl nb q ho e1 (show Sr73.doing s (.take n0 n1) = (none, Sr73.say (-22)) from if_pos bad)
  have g1 : Sr73.okF n0 n1 = true := by simpa using cc
  have ok1 : ¬ (Sr73.okF n0 n1 = false) := by rw [g1]; simp
  obtain ⟨d, rfl, hd, nx, sx⟩ := okF_sz g1
  (try unfold tNext)
  dsimp only
  refine sp_asg (ec_angles (ep_v rfl) (ho.mono e1) hg) fun va H2 e2 hv => ?_
  have e12 := e1.trans e2
  dsimp only
  refine sp_if (et_not' (et_b ((ec_strict (ep_var rfl hv mo_anp) (ep_kk (ep_v rfl) (ho.mono e12))).to (by rw [strict_dec hg])))) (fun c2 H3 e3 => ?_) fun c2 H3 e3 => ?_
  · have c2 : Sr73.strict s = false := by simpa using c2
    exact told_no rfl nb q ho (e12.trans e3) (show Sr73.doing s (.take n0 (d : Int)) = (none, Sr73.say (-33)) from (if_neg ok1).trans (if_pos c2))
  have c2 : Sr73.strict s = true := by simpa using c2
  have ok2 : ¬ Sr73.strict s = false := by rw [c2]; simp
  have e13 := e12.trans e3
  have mok := msOk_strict hg c2 nx sx
  obtain ⟨nmo, smo⟩ := nf_sz_most mok
  generalize hmo : Sr73.most s (frac n0 d) = mo at *
  (try unfold tNext)
  dsimp only
  refine sp_asg (ec_frac (x0 e13 rfl) (x1 e13 rfl) hd) fun vx H4 e4 hx => ?_
  have e14 := e13.trans e4
  dsimp only
  refine sp_asg (ec_most (ep_found (ep_var rfl (mo_anp _ _ _ (e3.trans e4) hv) mo_anp)) (ep_var rfl hx mo_fr) mok) fun vm H5 e5 hm => ?_
  rw [hmo] at hm
  have e15 := e14.trans e5
  have ho5 := ho.mono e15
  dsimp only
  have nm := nf_minus nf_zero nmo
  have sm := sz_minus nf_zero nmo sz_zero smo
  have call := ep_callN (K := K) (Pre := fun a : List Frac × Frac × Frac => WpOk a.1 a.2.1 a.2.2) (A := fun a : List Frac × Frac × Frac => AC (FrL K a.1) (AC (Fr K a.2.1) (AC (Fr K a.2.2) A0))) (g := fun a : List Frac × Frac × Frac => wp a.1 a.2.1 a.2.2)
    (σ := [some (.ref a), some (.ref ln), some (.ref lr), some va, some vx, some vm]) (H := H5) (s.m, frac n0 d, minus zero mo) (wp_ok hg nx nm sx sm (by decide)) (ea_c (ep_means (ep_v (i := 0) rfl) ho5) mo_frl (ea_c (ep_var (i := 4) rfl (mo_fr _ _ _ e5 hx) mo_fr) mo_fr (ea_c (ec_less (ep_cR (fr_ZERO T)) (ep_var (i := 5) rfl hm mo_fr) (fi_of nf_zero sz_zero (by decide)) (fi_of nmo smo (by decide))) mo_fr ea_n)))
  refine ⟨_, rfl, call.run fun vc H6 e6 hc => ?_⟩
  obtain ⟨lc, us, rfl, nc, hlc, fsc⟩ := hc
  have fsc : Fs K H6 us (wp s.m (frac n0 d) (minus zero mo)) := fsc
  have e16 := e15.trans e6
  rw [minus_zero nmo] at fsc
  have em : (Sr73.put s (frac n0 d) (neg mo)).m = wp s.m (frac n0 d) (neg mo) := put_is nx (nf_neg nmo) hg.len
  have est : ({ s with m := wp s.m (frac n0 d) (neg mo) } : Sr73.Means) = Sr73.put s (frac n0 d) (neg mo) := by rw [← em]; rfl
  have esm : Sr73.small (Sr73.put s (frac n0 d) (neg mo)) = !((wp s.m (frac n0 d) (neg mo)).any long) := by rw [small_long, em]
  refine ⟨a, l, lc, s, wp s.m (frac n0 d) (neg mo), rfl, ho.mono e16, ⟨lc, us, rfl, hlc, fsc⟩, fun hlong H7 e7 => ⟨_, rfl, ite_t rfl ?_⟩, fun hshort H7 dx e7 hdx => ⟨_, rfl, ite_f rfl ?_⟩⟩
  · refine told_no rfl nb q ho (e16.trans e7) (show Sr73.doing s (.take n0 (d : Int)) = (none, Sr73.say (-75)) from (if_neg ok1).trans ((if_neg ok2).trans ?_))
    rw [Int.toNat_natCast]
    simp only [hmo]
    refine if_pos ?_
    rw [esm, hlong]
    rfl
  · have es := step_some nb (show Sr73.doing s (.take n0 (d : Int)) = (some (Sr73.put s (frac n0 d) (neg mo)), Sr73.tell mo) from (if_neg ok1).trans ((if_neg ok2).trans (by
      rw [Int.toNat_natCast]
      simp only [hmo]
      refine if_neg ?_
      rw [esm, hshort]
      simp)))
    dsimp only
    have hm7 : Fr K mo vm (upd H7 a (.ins T.Spread.C dx (sF s.k lc))) := fr_updI hdx (mo_fr _ _ _ (e6.trans e7) hm)
    refine sp_ret (ep_wf ep_c (ep_frl (ep_lst1 (x := mo) (ep_var rfl hm7 mo_fr))) (by simp)) fun v H8 e8 hv8 => ?_
    exact keep_end q (e16.trans e7) (none_back e15 nc) (e7 _ _ hlc) (fsc.mono e7) hdx e8 hv8 (by rw [es]; exact congrArg some est.symm) (by rw [es]; rfl)
/-! ### zeros -/
def zstep (x : Frac) (st : Int × Int) (y : List Frac × Frac) : Int × Int := if st.2 * (Sr71.valueAt y.1 x).n < 0 then (st.1 + 1, -st.2) else st
def zab (f : List (List Frac × Frac)) (x : Frac) : Int × Int := f.foldl (zstep x) (0, 1)
theorem zab_sign (x : Frac) : ∀ (f : List (List Frac × Frac)) (st : Int × Int), st.2.natAbs = 1 → (f.foldl (zstep x) st).2.natAbs = 1
  | [], _, h => h
  | y :: f, st, h => zab_sign x f _ (by
      unfold zstep
      split
      · show (-st.2).natAbs = 1
        rw [Int.natAbs_neg]
        exact h
      · exact h)
theorem cut_take (xs : List V) (j : Nat) : cutV xs none (some ((j : Nat) : Int)) = xs.take j := by
  unfold cutV
  rw [HT.sIx_nat]
  have : HT.sIx xs.length 0 none = 0 := rfl
  rw [this, Nat.sub_zero, List.drop_zero, List.take_eq_take_iff]
  omega
theorem Al.take {α : Type} {R : α → PV} {H : Hp} : ∀ {vs : List V} {xs : List α} (n : Nat), Al R H vs xs → Al R H (vs.take n) (xs.take n)
  | _, _, 0, _ => trivial
  | [], [], _ + 1, _ => trivial
  | _ :: _, _ :: _, n + 1, ⟨h, r⟩ => ⟨h, Al.take n r⟩
  | [], _ :: _, _ + 1, h => h.elim
  | _ :: _, [], _ + 1, h => h.elim
structure ZaOk (f : List (List Frac × Frac)) (x : Frac) : Prop where
  ys : ∀ y ∈ f, MoY x y ∧ VaOk y.1 x
def sp_zeros_above (K : PySem.W.Frag) : Sp := spF (fun a : List (List Frac × Frac) × Nat × Frac => ZaOk a.1 a.2.2)
  (fun a => AC (FdL K a.1) (AC (Is (.int (a.2.1 : Int))) (AC (Fr K a.2.2) A0))) (fun a => Is (.int (zab (a.1.take (a.2.1 + 1)) a.2.2).1))
theorem ok_zeros_above (T : Txt K mg) (B : Bs P base) : FnOk P w K mg base CX0 44 T.zeros_above.f T.zeros_above.fd ["found", "power", "place"] (sp_zeros_above K) := by
  refine ok_spF T.zeros_above sc_zeros_above (fun a vs H h => len3 h) fun cdv Ar outer s0 H Q E a vs hr hp ha q => ?_
  obtain ⟨f, j, x⟩ := a
  obtain ⟨vf, _, rfl, hf, _, _, rfl, rfl, vx, _, rfl, hx, rfl⟩ := ha
  obtain ⟨ys⟩ : ZaOk f x := hp
  have hx : Fr K x vx H := hx
  obtain ⟨lf, us, rfl, hlf, al⟩ := hf
  have al : Al (Pr K lf) H us f := al
  refine ⟨_, (pss_cons (ps_set (i := 3) sc_zeros_above.nd rfl (Or.inl rfl) pe_int)
      (pss_cons (ps_set (i := 4) sc_zeros_above.nd rfl (Or.inl rfl) pe_int)
      (pss_cons (ps_for PassesOwn.never (by rfl) (pi_list (pe_slice sl_list (pv 0) po_none (po_some (pe_op op_add (pv 1) pe_int)))) (pg_name (i := 5) sc_zeros_above.nd rfl (Or.inl rfl)) (pss_one (ps_if (pt_cmpR op_lt (pe_op op_mulA (pv 4) (pe_ix ix_tup (pe_df T.value_at (ok_value_at T B) hr (pa_cons (pe_ix ix_tup (pv 5) pe_int (fun _ _ => rfl)) (pa_cons (pv 2) pa_nil))) pe_int (fun _ _ => rfl))) pe_int (nomark _)) (pss_cons (ps_aug (i := 3) sc_zeros_above.nd rfl (.inl rfl) pe_int ip_add)
      (pss_one (ps_set (i := 4) sc_zeros_above.nd rfl (Or.inl rfl) (pe_un un_neg (pv 4))))) pss_nil)))
      (pss_one (ps_ret (pv 3)))))), ?_⟩
  refine sp_asg ep_c fun v H1 e1 hv => ?_
  obtain rfl : v = _ := hv
  refine sp_asg ep_c fun v H2 e2 hv => ?_
  obtain rfl : v = _ := hv
  have e12 := e1.trans e2
  dsimp only
  have ej : (j : Int) + 1 = ((j + 1 : Nat) : Int) := by push_cast; rfl
  have sl : EvP (tSl (rSlL K) (tVar 0) tNoPart (tPart (tOp (rI0 fun i j => .int (i + j)) (tVar 1) (tC (.int 1))))) [some (.ref lf), some (.int (j : Int)), some vx, some (.int 0), some (.int 1), none] H2 (fun v H' => ∃ r, v = .ref r ∧ H' r = some (.lst (us.take (j + 1)))) := fun H3 e3 Q' q' => by
    refine ⟨_, rfl, ((ep_add (ep_v rfl) ep_c).to (by rw [ej]) : EvP _ _ H3 (Is (.int ((j + 1 : Nat) : Int)))).run fun v H4 e4 hv => ?_⟩
    refine ⟨_, hv, lf, us, rfl, sq_of ((e12.trans e3).trans e4 _ _ hlf), fun r nr => q' _ _ (e4.trans (Ex.new nr)) ⟨r, rfl, ?_⟩⟩
    rw [upd_same, cut_take]
  refine sp_for_any (K := K) sl fun v H3 e3 hv => ?_
  obtain ⟨r, rfl, hr3⟩ := hv
  have al3 : Al (Pq K) H3 (us.take (j + 1)) (f.take (j + 1)) := Al.to (fun x v h => pr_pq h) (((al.mono (fun _ => mo_pr) (e12.trans e3))).take (j + 1))
  refine ⟨r, us.take (j + 1), fun k σ H' => ∃ vp, σ = [some (.ref lf), some (.int (j : Int)), some vx, some (.int (((f.take (j + 1)).take k).foldl (zstep x) (0, 1)).1), some (.int (((f.take (j + 1)).take k).foldl (zstep x) (0, 1)).2), vp] ∧ Ex H3 H', rfl, ⟨none, rfl, Ex.refl _⟩, ?_, ?_, ?_⟩
  · rintro k σ H4 ⟨vp, rfl, e4⟩
    exact sq_of (e4 _ _ hr3)
  · rintro k y σ H4 hy ⟨vp, rfl, e4⟩
    have hk' : k < (f.take (j + 1)).length := by
      rw [← al3.len]
      exact (List.getElem?_eq_some_iff.mp hy).1
    have ef : (f.take (j + 1))[k]? = some (f.take (j + 1))[k] := List.getElem?_eq_getElem hk'
    have hmem : (f.take (j + 1))[k] ∈ f := List.mem_of_mem_take (List.getElem_mem hk')
    have est : ∀ st, ((f.take (j + 1)).take k).foldl (zstep x) (0, 1) = st → ((f.take (j + 1)).take (k + 1)).foldl (zstep x) (0, 1) = zstep x st (f.take (j + 1))[k] := fun st h => by
      rw [List.take_succ, ef, List.foldl_append, h]
      rfl
    have hsg : (((f.take (j + 1)).take k).foldl (zstep x) (0, 1)).2.natAbs = 1 := zab_sign x _ _ rfl
    generalize hst : ((f.take (j + 1)).take k).foldl (zstep x) (0, 1) = st at *
    have est := est st rfl
    generalize (f.take (j + 1))[k] = p at ef hmem est
    obtain ⟨my, va⟩ := ys p hmem
    obtain ⟨y', hy', pq⟩ := (al3.mono (fun _ => mo_pq) e4).at ef
    rw [hy] at hy'
    obtain rfl := Option.some.inj hy'
    have e14 := (e12.trans e3).trans e4
    refine sp_if (et_t (ep_lt (ep_mul (ep_v rfl) (ep_num (K := K) (ec_value (ep_pq0 (y := p) (ep_var rfl pq mo_pq)) (ep_var rfl (mo_fr _ _ _ e14 hx) mo_fr) va)) (fit_small (by rw [hsg]; decide)) my.fv.n) ep_c)) (fun cc H5 e5 => ?_) fun cc H5 e5 => ?_
    · have cc : st.2 * (Sr71.valueAt p.1 x).n < 0 := of_decide_eq_true cc
      have ez : zstep x st p = (st.1 + 1, -st.2) := if_pos cc
      rw [ez] at est
      refine sp_augI rfl ep_c fun H6 e6 => ?_
      dsimp only
      refine sp_asg (ep_neg (ep_v rfl)) fun v H7 e7 hv => ?_
      obtain rfl : v = _ := hv
      refine ⟨some y, ?_, ((e4.trans e5).trans e6).trans e7⟩
      rw [est]
      rfl
    · have cc : ¬ st.2 * (Sr71.valueAt p.1 x).n < 0 := of_decide_eq_false cc
      have ez : zstep x st p = st := if_neg cc
      rw [ez] at est
      refine ⟨some y, ?_, e4.trans e5⟩
      rw [est]
      rfl
  · rintro σ H4 ⟨vp, rfl, e4⟩
    rw [al3.len, List.take_length]
    dsimp only
    exact sp_ret (ep_v rfl) fun v H5 e5 hv => q v H5 (((e12.trans e3).trans e4).trans e5) hv
theorem ec_zeros {σ : L2.St} {H : Hp} {ta tb tc : TE} {f : List (List Frac × Frac)} {j : Nat} {x : Frac} (ha : EvP ta σ H (FdL K f)) (hb : EvP tb σ H (Is (.int (j : Int)))) (hc : EvP tc σ H (Fr K x)) (h : ZaOk f x) : EvP (tCall (sp_zeros_above K) [] E0 (tCons ta (tCons tb (tCons tc tNil)))) σ H (Is (.int (zab (f.take (j + 1)) x).1)) :=
  ep_call (R := fun a : List (List Frac × Frac) × Nat × Frac => Is (.int (zab (a.1.take (a.2.1 + 1)) a.2.2).1)) (A := fun a : List (List Frac × Frac) × Nat × Frac => AC (FdL K a.1) (AC (Is (.int (a.2.1 : Int))) (AC (Fr K a.2.2) A0))) (f, j, x) h (ea_c ha mo_fdl (ea_c hb (mo_is _) (ea_c hc mo_fr ea_n)))
end
end Sm


/-! # zeros, given how many there are -/
namespace Sm
open PySem PySem.Spec PyProof.Rows L2 Evl
open Sr58 (Frac frac plus times whole)
open Sr66 (minus over zero neg)
/-- how many zeros there are: what the mathematics has to show -/
def ZerosTrue : Prop := ∀ s : Sr73.Means, Good s → Sr73.strict s = true → ∀ j, j ≤ s.k → ∀ x y : Frac, Nf x → Nf y → val x < val y →
  ((Sr71.between ((Sr73.looked s).1.getD j ([], whole 1)).1 x y : Nat) : Int) = (zab ((Sr73.looked s).1.take (j + 1)) x).1 - (zab ((Sr73.looked s).1.take (j + 1)) y).1 ∧ Sr71.roots ((Sr73.looked s).1.getD j ([], whole 1)).1 = j
theorem frac_parts {n : Int} {d : Nat} (h : 0 < d) : ∃ g : Int, 0 < g ∧ n = g * (frac n d).n ∧ (d : Int) = g * ((frac n d).d : Int) := by
  have hg : 0 < Nat.gcd n.natAbs d := Nat.gcd_pos_of_pos_right _ h
  rw [frac_eq h]
  refine ⟨(Nat.gcd n.natAbs d : Int), by omega, ?_, ?_⟩
  · exact (Int.mul_ediv_cancel' (Int.ofNat_dvd_left.mpr (Nat.gcd_dvd_left _ _))).symm
  · show (d : Int) = (Nat.gcd n.natAbs d : Int) * ((d / Nat.gcd n.natAbs d : Nat) : Int)
    have := Nat.mul_div_cancel' (Nat.gcd_dvd_right n.natAbs d)
    rw [← Int.natCast_mul, this]
theorem less_frac {a c : Int} {b d : Nat} (hb : 0 < b) (hd : 0 < d) : Sr58.less (frac a b) (frac c d) = decide (¬ c * (b : Int) ≤ a * (d : Int)) := by
  obtain ⟨g, g0, e1, e2⟩ := frac_parts (n := a) hb
  obtain ⟨h, h0, e3, e4⟩ := frac_parts (n := c) hd
  unfold Sr58.less
  refine decide_eq_decide.mpr ?_
  generalize (frac a b).n = n1 at *
  generalize ((frac a b).d : Int) = d1 at *
  generalize (frac c d).n = n2 at *
  generalize ((frac c d).d : Int) = d2 at *
  rw [e1, e2, e3, e4]
  have gh : 0 < g * h := Int.mul_pos g0 h0
  have l1 : h * n2 * (g * d1) = (g * h) * (n2 * d1) := by grind
  have l2 : g * n1 * (h * d2) = (g * h) * (n1 * d2) := by grind
  rw [l1, l2]
  constructor
  · intro lt z
    have := Int.le_of_mul_le_mul_left z gh
    omega
  · intro nz
    by_cases c : n1 * d2 < n2 * d1
    · exact c
    · exact absurd (Int.mul_le_mul_of_nonneg_left (show n2 * d1 ≤ n1 * d2 by omega) (by omega)) nz
theorem less_val {x y : Frac} (hx : Nf x) (hy : Nf y) (h : Sr58.less x y = true) : val x < val y := by
  have h : x.n * (y.d : Int) < y.n * (x.d : Int) := of_decide_eq_true h
  have n1 := nf_minus hy hx
  have v : val (minus y x) = val y - val x := val_minus hy hx
  have : 0 < (minus y x).n := by
    have e : minus y x = frac (y.n * (x.d : Int) + (-x.n) * (y.d : Int)) (y.d * x.d) := rfl
    obtain ⟨g, g0, e1, e2⟩ := frac_parts (n := y.n * (x.d : Int) + (-x.n) * (y.d : Int)) (Nat.mul_pos hy.1 hx.1)
    rw [← e] at e1
    have pos : 0 < y.n * (x.d : Int) + (-x.n) * (y.d : Int) := by
      rw [Int.neg_mul]
      omega
    rw [e1] at pos
    by_cases c : 0 < (minus y x).n
    · exact c
    · have := Int.mul_nonpos_of_nonneg_of_nonpos (show 0 ≤ g by omega) (show (minus y x).n ≤ 0 by omega)
      omega
  have := (val_pos n1).mpr this
  rw [v] at this
  grind
section
variable {P : Program} {w : World} {K : PySem.W.Frag} {mg : Str → Option Value} {base : Heap}
def ok_zeros_ : Sr73.State → List Int → List Int → Sr73.Call → Prop := fun st ns _ c => ∃ s j a b x y, st = some s ∧ ns = [j, a, b, x, y] ∧ c = .zeros j a b x y
theorem ok_tell_zeros (Z : ZerosTrue) (T : Txt K mg) (B : Bs P base) : FnOk P w K mg base CX0 50 T.tell_zeros.f T.tell_zeros.fd ["spread", "numbers", "row"] (spC T ok_zeros_) := by
  refine ok_spC T.tell_zeros sc_tell_zeros fun cdv Ar outer s0 H Q E a l ln lr ns row z c hr ho hn hw hg hc q => ?_
  obtain ⟨s, j, n1, n2, n3, n4, rfl, rfl, rfl⟩ := hc
  have hg : Good s := hg
  have nb : ∀ k, Sr73.Call.zeros j n1 n2 n3 n4 ≠ .begin_ k := fun k z => by cases z
  have k4 := hg.k4
  refine ⟨_, (pss_cons (ps_set (i := 3) sc_tell_zeros.nd rfl (Or.inl rfl) (pe_ix ix_list (pv 1) pe_int (fun _ _ => rfl)))
      (pss_cons (ps_if (pt_not (pt_chain op_le op_le pe_int (pv 3) (pe_fld (pv 0) (by rfl)))) (pss_one (ps_ret (pe_lst (pa_cons (pe_glob (by rfl) T.NO_SUCH_POWER.g T.NO_SUCH_POWER.r) pa_nil)))) pss_nil)
      (pss_cons (ps_if (pt_not (PW.pt (pw_and (pt_val (pe_df T.is_small_fraction (ok_is_small_fraction T B) hr (pa_cons (pe_ix ix_list (pv 1) pe_int (fun _ _ => rfl)) (pa_cons (pe_ix ix_list (pv 1) pe_int (fun _ _ => rfl)) pa_nil)))) (pw_and1 (pt_val (pe_df T.is_small_fraction (ok_is_small_fraction T B) hr (pa_cons (pe_ix ix_list (pv 1) pe_int (fun _ _ => rfl)) (pa_cons (pe_ix ix_list (pv 1) pe_int (fun _ _ => rfl)) pa_nil)))))))) (pss_one (ps_ret (pe_lst (pa_cons (pe_glob (by rfl) T.NOT_TAKEN.g T.NOT_TAKEN.r) pa_nil)))) pss_nil)
      (pss_cons (ps_set (i := 4) sc_tell_zeros.nd rfl (Or.inl rfl) (pe_df T.fraction (ok_fraction T B) hr (pa_cons (pe_ix ix_list (pv 1) pe_int (fun _ _ => rfl)) (pa_cons (pe_ix ix_list (pv 1) pe_int (fun _ _ => rfl)) pa_nil))))
      (pss_cons (ps_set (i := 5) sc_tell_zeros.nd rfl (Or.inl rfl) (pe_df T.fraction (ok_fraction T B) hr (pa_cons (pe_ix ix_list (pv 1) pe_int (fun _ _ => rfl)) (pa_cons (pe_ix ix_list (pv 1) pe_int (fun _ _ => rfl)) pa_nil))))
      (pss_cons (ps_if (pt_not (pt_val (pe_df T.is_less (ok_is_less T B) hr (pa_cons (pv 4) (pa_cons (pv 5) pa_nil))))) (pss_one (ps_ret (pe_lst (pa_cons (pe_glob (by rfl) T.NOT_TAKEN.g T.NOT_TAKEN.r) pa_nil)))) pss_nil)
      (pss_cons (ps_set (i := 6) sc_tell_zeros.nd rfl (Or.inl rfl) (pe_df T.angles_of (ok_angles_of T B) hr (pa_cons (pv 0) pa_nil)))
      (pss_cons (ps_if (pt_not (pt_val (pe_df T.fits_strictly (ok_fits_strictly T B) hr (pa_cons (pv 6) (pa_cons (pe_fld (pv 0) (by rfl)) pa_nil))))) (pss_one (ps_ret (pe_lst (pa_cons (pe_glob (by rfl) T.NOT_TOLD.g T.NOT_TOLD.r) pa_nil)))) pss_nil)
      (pss_one (ps_ret (pe_lst (pa_cons (pe_op op_sub (pe_df T.zeros_above (ok_zeros_above T B) hr (pa_cons (pe_fld (pv 6) (by rfl)) (pa_cons (pv 3) (pa_cons (pv 4) pa_nil)))) (pe_df T.zeros_above (ok_zeros_above T B) hr (pa_cons (pe_fld (pv 6) (by rfl)) (pa_cons (pv 3) (pa_cons (pv 5) pa_nil))))) (pa_cons (pv 3) pa_nil))))))))))))), ?_⟩
  have vN : ∀ {H1 : Hp} {σ : L2.St}, Ex H H1 → σ[1]? = some (some (.ref ln)) → EvP (tVar 1) σ H1 (IL [j, n1, n2, n3, n4]) := fun e h => ep_var h ⟨ln, rfl, e _ _ hn⟩ mo_il
  have x1 : ∀ {H1 : Hp} {σ : L2.St}, Ex H H1 → σ[1]? = some (some (.ref ln)) → EvP (tOp (rIxL K) (tVar 1) (tC (.int 1))) σ H1 (Is (.int n1)) := fun e h => ep_ixI (K := K) (i := 1) (vN e h) ep_c rfl
  have x2 : ∀ {H1 : Hp} {σ : L2.St}, Ex H H1 → σ[1]? = some (some (.ref ln)) → EvP (tOp (rIxL K) (tVar 1) (tC (.int 2))) σ H1 (Is (.int n2)) := fun e h => ep_ixI (K := K) (i := 2) (vN e h) ep_c rfl
  have x3 : ∀ {H1 : Hp} {σ : L2.St}, Ex H H1 → σ[1]? = some (some (.ref ln)) → EvP (tOp (rIxL K) (tVar 1) (tC (.int 3))) σ H1 (Is (.int n3)) := fun e h => ep_ixI (K := K) (i := 3) (vN e h) ep_c rfl
  have x4 : ∀ {H1 : Hp} {σ : L2.St}, Ex H H1 → σ[1]? = some (some (.ref ln)) → EvP (tOp (rIxL K) (tVar 1) (tC (.int 4))) σ H1 (Is (.int n4)) := fun e h => ep_ixI (K := K) (i := 4) (vN e h) ep_c rfl
  refine sp_asg (ep_ixI (K := K) (i := 0) (vN (Ex.refl _) rfl) ep_c rfl) fun v H1 e1 hv => ?_
  obtain rfl : v = _ := hv
  dsimp only
  refine sp_if (et_not' (et_t (ep_chain (g := fun i j => decide (i ≤ j)) (g' := fun i j => decide (i ≤ j)) ep_c (ep_v rfl) (ep_kk (ep_v rfl) (ho.mono e1))))) (fun cc H2 e2 => ?_) fun cc H2 e2 => ?_
  · have bad : j < 0 ∨ (s.k : Int) < j := by
      simp at cc
      omega
    exact told_no rfl nb q ho (e1.trans e2) (show Sr73.doing s (.zeros j n1 n2 n3 n4) = (none, Sr73.say (-2)) from congrArg (Prod.mk none) (if_pos bad))
  have ok1 : ¬ (j < 0 ∨ (s.k : Int) < j) := by
    simp at cc
    omega
  obtain ⟨n, rfl⟩ : ∃ n : Nat, j = (n : Int) := ⟨j.toNat, by omega⟩
  have e12 := e1.trans e2
  have no22 : (Sr73.okF n1 n2 = false ∨ Sr73.okF n3 n4 = false ∨ n3 * n2 ≤ n1 * n4) → Sr73.doing s (.zeros (n : Int) n1 n2 n3 n4) = (none, Sr73.say (-22)) := fun bad => congrArg (Prod.mk none) ((if_neg ok1).trans (if_pos bad))
  (try unfold tNext)
  dsimp only
  refine sp_if (et_not' (et_and' (et_b (ec_small (x1 e12 rfl) (x2 e12 rfl))) fun _ => et_b (ec_small (x3 e12 rfl) (x4 e12 rfl)))) (fun c2 H3 e3 => ?_) fun c2 H3 e3 => ?_
  · refine told_no rfl nb q ho (e12.trans e3) (no22 ?_)
    revert c2
    cases Sr73.okF n1 n2 <;> cases Sr73.okF n3 n4 <;> simp
  have g1 : Sr73.okF n1 n2 = true := by
    revert c2
    cases Sr73.okF n1 n2 <;> cases Sr73.okF n3 n4 <;> simp
  have g2 : Sr73.okF n3 n4 = true := by
    revert c2
    cases Sr73.okF n1 n2 <;> cases Sr73.okF n3 n4 <;> simp
  obtain ⟨d, rfl, hd, nx, sx⟩ := okF_sz g1
  obtain ⟨d', rfl, hd', ny, sy⟩ := okF_sz g2
  have e13 := e12.trans e3
  (try unfold tNext)
  dsimp only
  refine sp_asg (ec_frac (x1 e13 rfl) (x2 e13 rfl) hd) fun vx H4 e4 hx => ?_
  have e14 := e13.trans e4
  dsimp only
  refine sp_asg (ec_frac (x3 e14 rfl) (x4 e14 rfl) hd') fun vy H5 e5 hy => ?_
  have e15 := e14.trans e5
  dsimp only
  have vX : ∀ {H6 : Hp} {σ : L2.St}, Ex H5 H6 → σ[4]? = some (some vx) → EvP (tVar 4) σ H6 (Fr K (frac n1 d)) := fun e h => ep_var h (mo_fr _ _ _ (e5.trans e) hx) mo_fr
  have vY : ∀ {H6 : Hp} {σ : L2.St}, Ex H5 H6 → σ[5]? = some (some vy) → EvP (tVar 5) σ H6 (Fr K (frac n3 d')) := fun e h => ep_var h (mo_fr _ _ _ e hy) mo_fr
  refine sp_if (et_not' (et_b (ec_isless (vX (Ex.refl _) rfl) (vY (Ex.refl _) rfl) (fi_of nx sx (by decide)) (fi_of ny sy (by decide))))) (fun c3 H6 e6 => ?_) fun c3 H6 e6 => ?_
  · refine told_no rfl nb q ho (e15.trans e6) (no22 (.inr (.inr ?_)))
    rw [less_frac hd hd'] at c3
    simpa using c3
  have lt : Sr58.less (frac n1 d) (frac n3 d') = true := by simpa using c3
  have lv := less_val nx ny lt
  rw [less_frac hd hd'] at lt
  have lt := of_decide_eq_true lt
  have ok2 : ¬ (Sr73.okF n1 (d : Int) = false ∨ Sr73.okF n3 (d' : Int) = false ∨ n3 * (d : Int) ≤ n1 * (d' : Int)) := by
    rw [g1, g2]
    simp
    omega
  have e16 := e15.trans e6
  (try unfold tNext)
  dsimp only
  refine sp_asg (ec_angles (ep_v rfl) (ho.mono e16) hg) fun va H7 e7 hv => ?_
  have e17 := e16.trans e7
  dsimp only
  refine sp_if (et_not' (et_b ((ec_strict (ep_var rfl hv mo_anp) (ep_kk (ep_v rfl) (ho.mono e17))).to (by rw [strict_dec hg])))) (fun c4 H8 e8 => ?_) fun c4 H8 e8 => ?_
  · have c4 : Sr73.strict s = false := by simpa using c4
    exact told_no rfl nb q ho (e17.trans e8) (show Sr73.doing s (.zeros (n : Int) n1 d n3 d') = (none, Sr73.say (-33)) from congrArg (Prod.mk none) ((if_neg ok1).trans ((if_neg ok2).trans (if_pos c4))))
  have c4 : Sr73.strict s = true := by simpa using c4
  obtain ⟨z1, z2⟩ := Z s hg c4 n (by omega) (frac n1 d) (frac n3 d') nx ny lv
  have es := step_none nb (show Sr73.doing s (.zeros (n : Int) n1 d n3 d') = (none, ⟨(Sr71.between ((Sr73.looked s).1.getD n ([], whole 1)).1 (frac n1 d) (frac n3 d') : Int), [(Sr71.roots ((Sr73.looked s).1.getD n ([], whole 1)).1 : Int)]⟩) from
    congrArg (Prod.mk none) ((if_neg ok1).trans ((if_neg ok2).trans ((if_neg (by rw [c4]; simp)).trans (by simp only [Int.toNat_natCast])))))
  rw [z1, z2] at es
  have e18 := e17.trans e8
  have e68 := (e6.trans e7).trans e8
  have fnd : ∀ {σ : L2.St}, σ[6]? = some (some va) → EvP (tFld K (tVar 6) "found") σ H8 (FdL K (Sr73.looked s).1) := fun h => ep_found (ep_var h (mo_anp _ _ _ e8 hv) mo_anp)
  (try unfold tNext)
  dsimp only
  refine sp_ret (ep_lstI (ea_i (ep_sub (ec_zeros (fnd rfl) (ep_v rfl) (vX e68 rfl) ⟨(msOk_strict hg c4 nx sx).ys⟩) (ec_zeros (fnd rfl) (ep_v rfl) (vY e68 rfl) ⟨(msOk_strict hg c4 ny sy).ys⟩)) (ea_i (ep_v rfl) ea_in)) (by simp)) fun v H9 e9 hv9 => ?_
  exact told_end q ho (e18.trans e9) (in_back e18 hv9) (by rw [es]) (by rw [es]; rfl)
end
end Sm


/-! # zeros: what was to be shown -/
namespace Sm
open Sr58 (Frac frac plus times whole total)
open Sr66 (minus over zero neg)
/-- the first that isn't 0 -/
def fz : List Int → Int
  | [] => 0
  | a :: l => if a = 0 then fz l else a
theorem tb_fz : ∀ (l : List Int) (a : Int), fz l ≠ 0 → Sr71.turnsBy (a :: l) = (if a * fz l < 0 then 1 else 0) + Sr71.turnsBy l
  | [], a, h => absurd rfl h
  | b :: l, a, h => by
    by_cases c : b = 0
    · subst c
      have e : fz (0 :: l) = fz l := if_pos rfl
      rw [e] at h ⊢
      rw [tb_zero, ← tb_fz l a h]
      unfold Sr71.turnsBy
      by_cases c2 : a = 0
      · subst c2
        rw [List.filter_cons_of_neg (by decide), List.filter_cons_of_neg (by decide)]
      · rw [List.filter_cons_of_pos (by simpa using c2), List.filter_cons_of_neg (by decide), List.filter_cons_of_pos (by simpa using c2)]
    · have e : fz (b :: l) = b := if_neg c
      rw [e]
      exact tb_any l c
theorem sg_n {c : Frac} (hc : Nf c) : sg (val c) = if c.n < 0 then -1 else if 0 < c.n then 1 else 0 := (signOf_val hc).symm
theorem zab_is {f : List (List Frac × Frac)} {x : Frac} (hx : Nf x) (hf : ∀ y ∈ f, NfL y.1) (h0 : ∀ y, f[0]? = some y → rv (vl y.1) (val x) = 1) : ∀ t, t < f.length →
    ((zab (f.take (t + 1)) x).1 = (T (Bl (fun t => vl (f.getD t ([], whole 1)).1) t) (val x) : Int)) ∧ (zab (f.take (t + 1)) x).2 = fz (sgs (Bl (fun t => vl (f.getD t ([], whole 1)).1) t) (val x)) ∧ ((zab (f.take (t + 1)) x).2 = 1 ∨ (zab (f.take (t + 1)) x).2 = -1)
  | 0, ht => by
    have e : f[0]? = some f[0] := List.getElem?_eq_getElem ht
    have ed : f.getD 0 ([], whole 1) = f[0] := by rw [List.getD_eq_getElem?_getD, e]; rfl
    have ef : f.take 1 = [f[0]] := by rw [List.take_succ, e]; rfl
    have v := h0 _ e
    obtain ⟨n1, n2⟩ := val_value hx f[0].1 (hf _ (List.getElem_mem ht))
    rw [← rv_ev, v] at n2
    have np : 0 < (Sr71.valueAt f[0].1 x).n := (val_pos n1).mp (by rw [n2]; decide)
    have ez : zab (f.take (0 + 1)) x = (0, 1) := by
      show zab (f.take 1) x = _
      rw [ef]
      show zstep x (0, 1) f[0] = _
      unfold zstep
      rw [if_neg (by show ¬ (1 : Int) * (Sr71.valueAt f[0].1 x).n < 0; omega)]
    rw [ez]
    refine ⟨?_, ?_, .inl rfl⟩
    · show (0 : Int) = (T [vl (f.getD 0 ([], whole 1)).1] (val x) : Int)
      unfold T sgs
      show (0 : Int) = ((Sr71.turnsBy [_] : Nat) : Int)
      rw [tb_one]
      rfl
    · show (1 : Int) = fz [sg (rv (vl (f.getD 0 ([], whole 1)).1) (val x))]
      rw [ed, v]
      rfl
  | t + 1, ht => by
    obtain ⟨i1, i2, i3⟩ := zab_is hx hf h0 t (by omega)
    have e : f[t + 1]? = some f[t + 1] := List.getElem?_eq_getElem ht
    have ed : f.getD (t + 1) ([], whole 1) = f[t + 1] := by rw [List.getD_eq_getElem?_getD, e]; rfl
    obtain ⟨n1, n2⟩ := val_value hx f[t + 1].1 (hf _ (List.getElem_mem ht))
    have ez : zab (f.take (t + 1 + 1)) x = if (zab (f.take (t + 1)) x).2 * (Sr71.valueAt f[t + 1].1 x).n < 0 then ((zab (f.take (t + 1)) x).1 + 1, -(zab (f.take (t + 1)) x).2) else zab (f.take (t + 1)) x := by
      unfold zab
      rw [List.take_succ, e, List.foldl_append]
      rfl
    have esg : sg (rv (vl (f.getD (t + 1) ([], whole 1)).1) (val x)) = if (Sr71.valueAt f[t + 1].1 x).n < 0 then -1 else if 0 < (Sr71.valueAt f[t + 1].1 x).n then 1 else 0 := by
      rw [ed, rv_ev, ← n2]
      exact sg_n n1
    have hnz : fz (sgs (Bl (fun t => vl (f.getD t ([], whole 1)).1) t) (val x)) ≠ 0 := by
      rw [← i2]
      rcases i3 with z | z <;> rw [z] <;> decide
    have et : T (Bl (fun t => vl (f.getD t ([], whole 1)).1) (t + 1)) (val x) = (if sg (rv (vl (f.getD (t + 1) ([], whole 1)).1) (val x)) * fz (sgs (Bl (fun t => vl (f.getD t ([], whole 1)).1) t) (val x)) < 0 then 1 else 0) + T (Bl (fun t => vl (f.getD t ([], whole 1)).1) t) (val x) := tb_fz _ _ hnz
    have ef : fz (sgs (Bl (fun t => vl (f.getD t ([], whole 1)).1) (t + 1)) (val x)) = if sg (rv (vl (f.getD (t + 1) ([], whole 1)).1) (val x)) = 0 then fz (sgs (Bl (fun t => vl (f.getD t ([], whole 1)).1) t) (val x)) else sg (rv (vl (f.getD (t + 1) ([], whole 1)).1) (val x)) := rfl
    rw [ez, et, ef, esg, ← i2]
    generalize zab (f.take (t + 1)) x = st at *
    generalize (Sr71.valueAt f[t + 1].1 x).n = n at *
    generalize T (Bl (fun t => vl (f.getD t ([], whole 1)).1) t) (val x) = tt at *
    obtain ⟨a, b⟩ := st
    have i1 : a = (tt : Int) := i1
    have i3 : b = 1 ∨ b = -1 := i3
    subst i1
    dsimp only
    rcases i3 with rfl | rfl
    · by_cases c : n < 0
      · rw [if_pos (show (1 : Int) * n < 0 by omega), if_pos c]
        refine ⟨?_, rfl, .inr rfl⟩
        show (tt : Int) + 1 = ((1 + tt : Nat) : Int)
        omega
      · rw [if_neg (show ¬ (1 : Int) * n < 0 by omega), if_neg c]
        by_cases c2 : 0 < n
        · rw [if_pos c2]
          refine ⟨?_, rfl, .inl rfl⟩
          show (tt : Int) = ((0 + tt : Nat) : Int)
          omega
        · rw [if_neg c2]
          refine ⟨?_, rfl, .inl rfl⟩
          show (tt : Int) = ((0 + tt : Nat) : Int)
          omega
    · by_cases c : 0 < n
      · rw [if_pos (show (-1 : Int) * n < 0 by omega), if_neg (show ¬ n < 0 by omega), if_pos c]
        refine ⟨?_, rfl, .inl rfl⟩
        show (tt : Int) + 1 = ((1 + tt : Nat) : Int)
        omega
      · rw [if_neg (show ¬ (-1 : Int) * n < 0 by omega)]
        by_cases c2 : n < 0
        · rw [if_pos c2]
          refine ⟨?_, rfl, .inr rfl⟩
          show (tt : Int) = ((0 + tt : Nat) : Int)
          omega
        · rw [if_neg c2, if_neg c]
          refine ⟨?_, rfl, .inr rfl⟩
          show (tt : Int) = ((0 + tt : Nat) : Int)
          omega
theorem zeros_true : ZerosTrue := by
  intro s hg hs j hj x y hx hy hxy
  have k4 := hg.k4
  obtain ⟨H, og⟩ := strict_og hg.mb (by omega) hs
  obtain ⟨hfd, hfl⟩ := strict_fd hg.mb (by omega) hs
  have R := og.isRec (j := 0) (by omega)
  have nf : ∀ y ∈ (Sr73.looked s).1, NfL y.1 := fun y hy => by
    obtain ⟨t, ht, e⟩ := List.mem_iff_getElem.mp hy
    exact (hfd.fnd.one t y (by rw [List.getElem?_eq_getElem ht, e])).1.nf
  have h0 : ∀ z y, (Sr73.looked s).1[0]? = some y → rv (vl y.1) z = 1 := fun z y e => by
    have := R.p0 z
    have ed : (Sr73.looked s).1.getD 0 ([], whole 1) = y := by rw [List.getD_eq_getElem?_getD, e]; rfl
    have this : rv (vl ((Sr73.looked s).1.getD 0 ([], whole 1)).1) z = 1 := this
    rwa [ed] at this
  obtain ⟨zx, _, _⟩ := zab_is hx nf (h0 (val x)) j (by omega)
  obtain ⟨zy, _, _⟩ := zab_is hy nf (h0 (val y)) j (by omega)
  rw [zx, zy]
  cases j with
  | zero =>
    have l := og.len 0 (by omega)
    have m := og.mon 0 (by omega)
    have n := og.nf 0 (by omega)
    have l : ((Sr73.looked s).1.getD 0 ([], whole 1)).1.length = 1 := l
    have m : co ((Sr73.looked s).1.getD 0 ([], whole 1)).1 0 = 1 := m
    have n : NfL ((Sr73.looked s).1.getD 0 ([], whole 1)).1 := n
    have t0 : ∀ z, T (Bl (fun t => vl ((Sr73.looked s).1.getD t ([], whole 1)).1) 0) z = 0 := fun z => tb_one _
    rw [t0, t0]
    match hp : ((Sr73.looked s).1.getD 0 ([], whole 1)).1, l with
    | [c], _ =>
      rw [hp] at m n
      have nc : Nf c := n c (by simp)
      have m : val c = 1 := m
      have c0 : c.n ≠ 0 := fun z => by
        rw [(val_eq_zero nc).mpr z] at m
        exact absurd m (by decide)
      obtain ⟨b, r⟩ := zeros_one nc c0 x y
      rw [b, r]
      exact ⟨rfl, rfl⟩
  | succ n =>
    obtain ⟨b, r⟩ := og.zeros (n := n) hj
    exact ⟨b x y hx hy hxy, r⟩
end Sm

/-! # Behind each call the state is good again -/
namespace Sm
open Sr58 (Frac frac plus times whole)
open Sr66 (minus over zero neg)
theorem nf_frac_all (n : Int) (d : Nat) : Nf (frac n d) := by
  by_cases h : 0 < d
  · exact nf_frac h
  · obtain rfl : d = 0 := by omega
    have e : frac n 0 = ⟨0, 1⟩ := by
      unfold frac
      simp only []
      split
      · rfl
      · rw [if_pos (Nat.zero_div _)]
    rw [e]
    exact ⟨by decide, by decide⟩
theorem small_all {s : Sr73.Means} (h : Sr73.small s = true) : ∀ x ∈ s.m, x.n.natAbs < 10 ^ 60 ∧ x.d < 10 ^ 60 := by
  intro x hx
  have := List.all_eq_true.mp h x hx
  rw [Bool.and_eq_true] at this
  exact ⟨of_decide_eq_true this.1, of_decide_eq_true this.2⟩
theorem good_put {s : Sr73.Means} (g : Good s) {x w : Frac} (h : Sr73.small (Sr73.put s x w) = true) : Good (Sr73.put s x w) where
  k1 := g.k1
  k4 := g.k4
  len := by
    show ((List.range (2 * s.k + 1)).map _).length = 2 * s.k + 1
    simp
  nf := fun y hy => by
    obtain ⟨i, _, rfl⟩ := List.mem_map.mp hy
    exact nf_frac_all _ _
  sm := small_all h
theorem foldl_nf : ∀ (l : List Frac) (a : Frac), Nf a → Nf (l.foldl plus a)
  | [], _, h => h
  | x :: l, a, _ => foldl_nf l (plus a x) (nf_frac_all _ _)
theorem good_moved {s : Sr73.Means} (g : Good s) {x : Frac} (h : Sr73.small (Sr73.moved s x) = true) : Good (Sr73.moved s x) where
  k1 := g.k1
  k4 := g.k4
  len := by
    show ((List.range (2 * s.k + 1)).map _).length = 2 * s.k + 1
    simp
  nf := fun y hy => by
    obtain ⟨i, _, rfl⟩ := List.mem_map.mp hy
    exact foldl_nf _ _ (nf_whole 0)
  sm := small_all h
theorem good_begin {k : Int} (h : ¬ (k < 1 ∨ (4 : Int) < k)) : Good ⟨k.toNat, whole 1 :: List.replicate (2 * k.toNat) zero⟩ where
  k1 := by show 1 ≤ k.toNat; omega
  k4 := by show k.toNat ≤ 4; omega
  len := by simp
  nf := fun y hy => by
    rcases List.mem_cons.mp hy with e | e
    · rw [e]; exact nf_whole 1
    · rw [(List.mem_replicate.mp e).2]; exact nf_zero
  sm := fun y hy => by
    rcases List.mem_cons.mp hy with e | e
    · rw [e]; exact ⟨by decide, by decide⟩
    · rw [(List.mem_replicate.mp e).2]; exact ⟨by decide, by decide⟩
theorem frac_le {n : Int} {d : Nat} {b : Nat} (hd : 0 < d) (hn : n.natAbs < b) (hb : d < b) : (frac n d).n.natAbs < b ∧ (frac n d).d < b := by
  rw [frac_eq hd]
  refine ⟨Nat.lt_of_le_of_lt ?_ hn, Nat.lt_of_le_of_lt (Nat.div_le_self _ _) hb⟩
  show (n / (Nat.gcd n.natAbs d : Int)).natAbs ≤ n.natAbs
  rw [Int.natAbs_ediv_of_dvd (Int.ofNat_dvd_left.mpr (Nat.gcd_dvd_left _ _))]
  exact Nat.div_le_self _ _
theorem good_doing {s r : Sr73.Means} {c : Sr73.Call} {y : Sr66.Ans} (g : Good s) (hb : Bnd c) (h : Sr73.doing s c = (some r, y)) : Good r := by
  cases c with
  | set_ i a b =>
    simp only [Sr73.doing] at h
    split at h
    · cases h
    split at h
    · cases h
    · rename_i h1 h2
      obtain ⟨rfl, _⟩ := Prod.mk.inj h |>.imp Option.some.inj id
      refine ⟨g.k1, g.k4, ?_, fun x hx => ?_, fun x hx => ?_⟩
      · show (s.m.set _ _).length = _
        rw [List.length_set]
        exact g.len
      · rcases List.mem_or_eq_of_mem_set hx with e | e
        · exact g.nf x e
        · rw [e]; exact nf_frac_all _ _
      · rcases List.mem_or_eq_of_mem_set hx with e | e
        · exact g.sm x e
        · rw [e]
          refine frac_le (by omega) ?_ ?_
          · exact Nat.lt_of_le_of_lt (show a.natAbs ≤ 99999 by omega) (by decide)
          · exact Nat.lt_of_le_of_lt (show b.toNat ≤ 99999 by omega) (by decide)
  | row e l =>
    simp only [Sr73.doing] at h
    split at h
    · cases h
    · rename_i h1
      obtain ⟨rfl, _⟩ := Prod.mk.inj h |>.imp Option.some.inj id
      refine ⟨g.k1, g.k4, ?_, fun x hx => ?_, fun x hx => ?_⟩
      · show (l.map _).length = 2 * s.k + 1
        rw [List.length_map]
        omega
      · obtain ⟨z, _, rfl⟩ := List.mem_map.mp hx
        exact nf_frac_all _ _
      · obtain ⟨z, hz, rfl⟩ := List.mem_map.mp hx
        refine frac_le (by omega) (hb z hz) ?_
        exact Nat.lt_of_le_of_lt (show e.toNat ≤ 99999 by omega) (by decide)
  | put a b c d =>
    simp only [Sr73.doing] at h
    split at h
    · cases h
    split at h
    · cases h
    · rename_i h1 h2
      obtain ⟨rfl, _⟩ := Prod.mk.inj h |>.imp Option.some.inj id
      exact good_put g (by simpa using h2)
  | move a b =>
    simp only [Sr73.doing] at h
    split at h
    · cases h
    split at h
    · cases h
    · rename_i h1 h2
      obtain ⟨rfl, _⟩ := Prod.mk.inj h |>.imp Option.some.inj id
      exact good_moved g (by simpa using h2)
  | take a b =>
    simp only [Sr73.doing] at h
    split at h
    · cases h
    split at h
    · cases h
    split at h
    · cases h
    · rename_i h1 h2 h3
      obtain ⟨rfl, _⟩ := Prod.mk.inj h |>.imp Option.some.inj id
      exact good_put g (by simpa using h3)
  | begin_ k => simp [Sr73.doing] at h
  | _ => simp [Sr73.doing] at h
theorem step_good {st : Sr73.State} {c : Sr73.Call} (g : GoodS st) (hb : Bnd c) : GoodS (Sr73.step st c).1 := by
  by_cases z : ∃ k, c = .begin_ k
  · obtain ⟨k, rfl⟩ := z
    show GoodS (if k < 1 ∨ (Sr73.HALF : Int) < k then (st, Sr73.say (-22)) else _).1
    split
    · exact g
    · rename_i h
      exact good_begin h
  · have nb : ∀ k, c ≠ .begin_ k := fun k e => z ⟨k, e⟩
    cases st with
    | none =>
      cases c with
      | begin_ k => exact absurd rfl (nb k)
      | _ => trivial
    | some s =>
      cases e : Sr73.doing s c with
      | mk o y =>
        cases o with
        | none =>
          have : Sr73.step (some s) c = (some s, y) := by
            cases c with
            | begin_ k => exact absurd rfl (nb k)
            | _ => simp only [Sr73.step, e]
          rw [this]
          exact g
        | some r =>
          have : Sr73.step (some s) c = (some r, y) := by
            cases c with
            | begin_ k => exact absurd rfl (nb k)
            | _ => simp only [Sr73.step, e]
          rw [this]
          exact good_doing g hb e
end Sm

/-! # A call by its number -/
namespace Sm
def OkCall (p : Int) (ns row : List Int) (c : Sr73.Call) : Prop :=
  (rowed.any (fun y => y == p) = true ∧ Sr73Neutral.callOf [p :: ns, row] = some c) ∨ (rowed.any (fun y => y == p) = false ∧ row = [] ∧ Sr73Neutral.callOf [p :: ns] = some c)
inductive CallIs : Int → List Int → List Int → Sr73.Call → Prop
  | c0 (k : Int) : CallIs 0 [k] [] (.begin_ k)
  | c1 (i a b : Int) : CallIs 1 [i, a, b] [] (.set_ i a b)
  | c2 (e : Int) (r : List Int) : CallIs 2 [e] r (.row e r)
  | c3 (a b c d : Int) : CallIs 3 [a, b, c, d] [] (.put a b c d)
  | c4 (a b : Int) : CallIs 4 [a, b] [] (.move a b)
  | c5 : CallIs 5 [] [] .means
  | c6 (r : List Int) : CallIs 6 [] r (.mean r)
  | c7 : CallIs 7 [] [] .fits
  | c8 : CallIs 8 [] [] .strict
  | c9 : CallIs 9 [] [] .proof
  | c10 (j : Int) : CallIs 10 [j] [] (.angle j)
  | c11 : CallIs 11 [] [] .turns
  | c12 : CallIs 12 [] [] .rank
  | c13 (a b : Int) : CallIs 13 [a, b] [] (.most a b)
  | c14 (a b : Int) : CallIs 14 [a, b] [] (.take a b)
  | c15 (j a b c d : Int) : CallIs 15 [j, a, b, c, d] [] (.zeros j a b c d)
  | c16 (r : List Int) : CallIs 16 [] r (.square r)
theorem call_cases {x : List (List Int)} {c : Sr73.Call} (h : Sr73Neutral.callOf x = some c) : ∃ p ns row, CallIs p ns row c ∧ ((rowed.any (fun y => y == p) = true ∧ x = [p :: ns, row]) ∨ (rowed.any (fun y => y == p) = false ∧ x = [p :: ns])) := by
  unfold Sr73Neutral.callOf at h
  split at h
  case h_18 => cases h
  all_goals
    obtain rfl := Option.some.inj h
  · exact ⟨_, _, _, .c0 _, .inr ⟨rfl, rfl⟩⟩
  · exact ⟨_, _, _, .c1 _ _ _, .inr ⟨rfl, rfl⟩⟩
  · exact ⟨_, _, _, .c2 _ _, .inl ⟨rfl, rfl⟩⟩
  · exact ⟨_, _, _, .c3 _ _ _ _, .inr ⟨rfl, rfl⟩⟩
  · exact ⟨_, _, _, .c4 _ _, .inr ⟨rfl, rfl⟩⟩
  · exact ⟨_, _, _, .c5, .inr ⟨rfl, rfl⟩⟩
  · exact ⟨_, _, _, .c6 _, .inl ⟨rfl, rfl⟩⟩
  · exact ⟨_, _, _, .c7, .inr ⟨rfl, rfl⟩⟩
  · exact ⟨_, _, _, .c8, .inr ⟨rfl, rfl⟩⟩
  · exact ⟨_, _, _, .c9, .inr ⟨rfl, rfl⟩⟩
  · exact ⟨_, _, _, .c10 _, .inr ⟨rfl, rfl⟩⟩
  · exact ⟨_, _, _, .c11, .inr ⟨rfl, rfl⟩⟩
  · exact ⟨_, _, _, .c12, .inr ⟨rfl, rfl⟩⟩
  · exact ⟨_, _, _, .c13 _ _, .inr ⟨rfl, rfl⟩⟩
  · exact ⟨_, _, _, .c14 _ _, .inr ⟨rfl, rfl⟩⟩
  · exact ⟨_, _, _, .c15 _ _ _ _ _, .inr ⟨rfl, rfl⟩⟩
  · exact ⟨_, _, _, .c16 _, .inl ⟨rfl, rfl⟩⟩
theorem callIs_of {p : Int} {ns row : List Int} {c : Sr73.Call} (h : OkCall p ns row c) : CallIs p ns row c := by
  rcases h with ⟨h1, h2⟩ | ⟨h1, rfl, h2⟩
  · obtain ⟨p', ns', row', hc, ⟨_, e⟩ | ⟨_, e⟩⟩ := call_cases h2
    · simp only [List.cons.injEq, and_true] at e
      obtain ⟨⟨rfl, rfl⟩, rfl⟩ := e
      exact hc
    · simp at e
  · obtain ⟨p', ns', row', hc, ⟨h3, e⟩ | ⟨h3, e⟩⟩ := call_cases h2
    · simp at e
    · simp only [List.cons.injEq, and_true] at e
      obtain ⟨rfl, rfl⟩ := e
      cases hc <;> first | constructor | exact Bool.noConfusion (show true = false from h3)
end Sm

/-! # answers: the calls one by one -/
namespace Sm
open PySem PySem.Spec PyProof.Rows L2 Evl
open Sr58 (Frac)
section
variable {K : PySem.W.Frag} {σ : L2.St} {H H' : Hp} {v x y : V} {R R' : PV} {te ta tb tc : TE} {D : Ends}
/-- a list of xs, to be read -/
def SL (K : PySem.W.Frag) (xs : List V) : PV := fun v H => ∃ a, v = .ref a ∧ SqL K H a xs
theorem mo_sl {xs : List V} : Mo (SL K xs) := fun _ _ _ e ⟨a, h, q⟩ => ⟨a, h, ex_l e q⟩
theorem ep_ixS {xs : List V} {i : Int} (ha : EvP ta σ H (SL K xs)) (hb : EvP tb σ H (Is (.int i))) (h : atI xs i = some v) : EvP (tOp (rIxL K) ta tb) σ H (Is v) := fun H1 e Q q =>
  ha H1 e _ fun a H2 e2 ⟨p, ea, sq⟩ => hb H2 (e.trans e2) _ fun b H3 e3 eb => ⟨p, xs, i, v, ea, eb, ex_l e3 sq, h, q _ H3 (e2.trans e3) rfl⟩
theorem ep_slS {xs : List V} {i j : Int} {ns : List Int} (ha : EvP ta σ H (SL K xs)) (hb : EvP tb σ H (Is (.int i))) (hc : EvP tc σ H (Is (.int j))) (h : cutV xs (some i) (some j) = ns.map V.int) :
    EvP (tSl (rSlL K) ta (tPart tb) (tPart tc)) σ H (IN ns H) := fun H1 e Q q =>
  ha H1 e _ fun a H2 e2 ⟨p, ea, sq⟩ => hb H2 (e.trans e2) _ fun b H3 e3 eb => ⟨i, eb, hc H3 ((e.trans e2).trans e3) _ fun d H4 e4 ed => ⟨j, ed, p, xs, ea, ex_l (e3.trans e4) sq, fun r nr =>
    q _ _ (((e2.trans e3).trans e4).trans (Ex.new nr)) ⟨r, rfl, none_back (((e.trans e2).trans e3).trans e4) nr, by rw [upd_same, h]⟩⟩⟩
theorem ep_inT {xs : List V} (ha : EvP ta σ H (Is x)) (hb : EvP tb σ H (Tu K xs)) (fx : flatV x = true) (fs : xs.all flatV = true) : EvP (tOp (rIn K false) ta tb) σ H (Is (.bl (inV x xs))) := fun H1 e Q q =>
  ha H1 e _ fun a H2 e2 ea => hb H2 (e.trans e2) _ fun b H3 e3 ⟨p, eb, sq⟩ => by
    obtain rfl : a = x := ea
    exact ⟨p, xs, eb, .inr sq, fx, fs, q _ H3 (e2.trans e3) rfl⟩
end
theorem inV_any (p : Int) (ns : List Int) : inV (.int p) (ns.map V.int) = ns.any (fun y => y == p) := by
  unfold inV
  induction ns with
  | nil => rfl
  | cons n r ih =>
    rw [List.map_cons, List.any_cons, List.any_cons, ih]
    rfl
/-- a piece in the middle -/
theorem cut_mid (A B C : List Int) : cutV ((A ++ B ++ C).map V.int) (some (A.length : Int)) (some ((A.length + B.length : Nat) : Int)) = B.map V.int := by
  unfold cutV
  rw [HT.sIx_nat, HT.sIx_nat, List.length_map, ← List.map_drop, ← List.map_take]
  have e1 : min A.length (A ++ B ++ C).length = A.length := by simp
  have e2 : min (A.length + B.length) (A ++ B ++ C).length = A.length + B.length := by simp
  rw [e1, e2, Nat.add_sub_cancel_left, List.append_assoc, List.drop_left, List.take_left]
theorem at_mid (A : List Int) (n : Int) (C : List Int) : atI ((A ++ n :: C).map V.int) (A.length : Int) = some (.int n) := by
  refine atI_nat ?_
  rw [List.getElem?_map, List.getElem?_append_right (Nat.le_refl _), Nat.sub_self]
  rfl
section
variable {P : Program} {w : World} {K : PySem.W.Frag} {mg : Str → Option Value} {base : Heap}
def sp_answer (T : Txt K mg) : Sp := fun vs H Q _ => ∃ (a l ln lr : Addr) (p : Int) (ns row : List Int) (st : Sr73.State) (c : Sr73.Call), vs = [.ref a, .int p, .ref ln, .ref lr] ∧ SpAt T H a l st ∧
  H ln = some (.lst (ns.map V.int)) ∧ H lr = some (.lst (row.map V.int)) ∧ GoodS st ∧ OkCall p ns row c ∧ Bnd c ∧
  ∀ (q : Addr) (H' : Hp) (l' : Addr), H q = none → H' q = some (.lst ((told (Sr73.step st c).2).map V.int)) → Else a l H H' → SpAt T H' a l' (Sr73.step st c).1 → (l' = l ∨ H l' = none) → Q (.ref q) H'
/-- Spread() -/
def sp_init (T : Txt K mg) : Sp := fun vs H Q _ => ∃ (p dx : Addr), vs = [.ref p] ∧ H p = some (.ins T.Spread.C dx []) ∧
  ∀ (H' : Hp) (l : Addr), H l = none → SpAt T H' p l none → (∀ b o, H b = some o → b ≠ p → H' b = some o) → Q .non H'
theorem sc_Spread_init : FnScope ["self"] ["self"] (defScope i_Spread) := ⟨rfl, rfl, rfl, by decide +kernel, rfl, by decide +kernel, by decide +kernel⟩
theorem ok_Spread_init (T : Txt K mg) : FnOk P w K mg base CX0 1 T.Spread.f T.Spread.fd ["self"] (sp_init T) := by
  refine T.Spread.F.ok sc_Spread_init (fun vs H Q E h => ?_) (fun cdv Ar outer s0 H vs Q E hr h => ?_)
  · obtain ⟨p, dx, rfl, _⟩ := h
    rfl
  obtain ⟨p, dx, rfl, hp, q⟩ := h
  refine ⟨_, pss_cons (ps_fld (pv 0) pe_int (by rfl)) (pss_one (ps_fld (pv 0) (pe_lst pa_nil) (by rfl))), ?_⟩
  refine sp_fld (K := K) ep_c (ep_v rfl) hp T.Spread.cl T.nK (by show 0 < 1000; decide) (fun y H1 e1 hy _ => ?_) (mo_is _)
  obtain rfl : y = _ := hy
  dsimp only
  refine sp_fld (K := K) (ep_lstI (ns := []) ea_in (by simp)) (ep_v rfl) upd_same T.Spread.cl T.nMeans (by show 1 < 1000; decide) (fun y H2 e2 hy _ => ?_) mo_in
  obtain ⟨l, rfl, nl, hl⟩ := hy
  have ne : l ≠ p := ne_upd nl
  have nl1 := none_back e1 (none_upd nl)
  refine q _ l nl1 ⟨⟨dx, ?_⟩, [], ?_, trivial⟩ fun b o hb hne => ?_
  · rw [upd_same]
    show some (HO.ins _ _ (putF "means" (.ref l) (putF "k" (.int 0) []))) = _
    congr 2
  · rw [upd_ne ne]
    exact hl
  · rw [upd_ne hne]
    exact e2 _ _ (by rw [upd_ne hne]; exact e1 _ _ hb)
/-- answers -/
def sp_answers (K : PySem.W.Frag) : Sp := fun vs H Q _ => ∃ (ac : Addr) (l : List Int), vs = [.ref ac] ∧ SqL K H ac (l.map V.int) ∧ PySr73.answers_asked l = true ∧
  ∀ (p : Addr) (H' : Hp), H' p = some (.lst ((PySr73.answers l).map V.int)) → Q (.ref p) H'
/-- between two turns -/
def LoopI (T : Txt K mg) (H : Hp) (l : List Int) (ac a lt : Addr) (n : Nat) : L2.St → Hp → Prop := fun σ H' => ∃ (done : List Int) (rest : List (List (List Int))) (out : List Int) (st : Sr73.State) (lm : Addr) (x4 x5 x6 x7 x8 : Option V),
  σ = [some (.ref ac), some (.ref a), some (.ref lt), some (.int (done.length : Int)), x4, x5, x6, x7, x8] ∧ l = done ++ PyFlat.put rest ∧ (∀ c ∈ rest, Docd c) ∧
  Ex H H' ∧ SpAt T H' a lm st ∧ GoodS st ∧ H' lt = some (.lst (out.map V.int)) ∧ lt ≠ lm ∧ H lm = none ∧ PySr73.answers l = out ++ PyFlat.told (PyFlat.played Sr73Neutral.step st rest) ∧ n ≤ done.length
/-- answered = answer(..); told.append(len(answered)); told.extend(answered) -/
theorem turn_end (T : Txt K mg) {H H1 : Hp} {l : List Int} {ac a lt ln lr lm : Addr} {done ns row tail out : List Int} {i : Int} {rest : List (List (List Int))} {c : List (List Int)} {x : Sr73.Call}
    {st : Sr73.State} {x5 x8 : Option V} {D : Ends} (hshort : (PySr73.answers l).length ≤ 10000000) (na : H a = none) (nlt : H lt = none)
    (el2 : l = (done ++ i :: (ns ++ tail)) ++ PyFlat.put rest) (hrest : ∀ c ∈ rest, Docd c) (hx : Sr73Neutral.callOf c = some x) (hbx : Bnd x) (hOk : OkCall i ns row x)
    (e1 : Ex H H1) (hsp : SpAt T H1 a lm st) (hgood : GoodS st) (hlt : H1 lt = some (.lst (out.map V.int))) (hne : lt ≠ lm) (nlm : H lm = none)
    (eans : PySr73.answers l = out ++ PyFlat.told (PyFlat.played Sr73Neutral.step st (c :: rest))) (hln : H1 ln = some (.lst (ns.map V.int))) (hlr : H1 lr = some (.lst (row.map V.int)))
    (hD : ∀ σ' H', LoopI T H l ac a lt (done.length + 1 + ns.length + tail.length) σ' H' → D.nx σ' H') :
    tSeq (tAsg (tCall (sp_answer T) [] E0 (tCons (tVar 1) (tCons (tVar 4) (tCons (tVar 6) (tCons (tVar 7) tNil))))) (gName 8))
      (tSeq (tDrop (tBM K "list" rAppend (tVar 2) (tCons (tCB (fun xs H Q => ∃ p ys, xs = [.ref p] ∧ (SqL K H p ys ∨ SqT K H p ys) ∧ Q (.int ys.length) H) (tCons (tVar 8) tNil)) tNil)))
        (tDrop (tBM K "list" rExtend (tVar 2) (tCons (tVar 8) tNil)))) D
      [some (.ref ac), some (.ref a), some (.ref lt), some (.int ((done.length + 1 + ns.length + tail.length : Nat) : Int)), some (.int i), x5, some (.ref ln), some (.ref lr), x8] H1 := by
  refine ⟨_, rfl, _, rfl, _, rfl, _, rfl, a, lm, ln, lr, i, ns, row, st, x, rfl, hsp, hln, hlr, hgood, hOk, hbx, fun p H2 lm' np hp hel hsp' hlm' => ?_⟩
  have hta : lt ≠ a := fun z => by
    obtain ⟨⟨dx, g⟩, _⟩ := hsp
    rw [z, g] at hlt
    cases hlt
  have hlt2 : H2 lt = some (.lst (out.map V.int)) := hel _ _ hlt hta hne
  have hpt : p ≠ lt := fun z => by
    rw [z, hlt] at np
    cases np
  have e2 : Ex H H2 := fun b o hb => hel b o (e1 _ _ hb) (fun z => by rw [z, na] at hb; cases hb) (fun z => by rw [z, nlm] at hb; cases hb)
  have hne' : lt ≠ lm' := by
    rcases hlm' with z | z
    · rw [z]; exact hne
    · intro z2
      rw [← z2, hlt] at z
      cases z
  have nlm' : H lm' = none := by
    rcases hlm' with z | z
    · rw [z]; exact nlm
    · exact none_back e1 z
  -- what is answered
  have estep : Sr73Neutral.step st c = ((Sr73.step st x).1, told (Sr73.step st x).2) := by
    unfold Sr73Neutral.step
    rw [hx]
    rfl
  generalize hans : told (Sr73.step st x).2 = ans at *
  have eans2 : PySr73.answers l = (out ++ [(ans.length : Int)] ++ ans) ++ PyFlat.told (PyFlat.played Sr73Neutral.step (Sr73.step st x).1 rest) := by
    rw [eans, PyFlat.played, estep]
    show out ++ ((ans.length : Int) :: ans ++ PyFlat.told _) = _
    simp
  have hsum : out.length + 1 + ans.length ≤ 10000000 := by
    rw [eans2] at hshort
    simp at hshort
    omega
  have line : (10000000 : Nat) ≤ sizeLine := by rw [sizeLine_eq]; decide
  refine ⟨_, rfl, .inl ⟨rfl, _, sq_of hlt2⟩, _, rfl, p, _, rfl, .inl (sq_of hp), lt, _, _, rfl, rfl, hlt2, ?_, ?_⟩
  · rw [List.length_map]
    omega
  have hp3 : upd H2 lt (.lst (out.map V.int ++ [V.int ((ans.map V.int).length : Int)])) p = some (.lst (ans.map V.int)) := by
    rw [upd_ne hpt]
    exact hp
  refine ⟨_, rfl, .inl ⟨rfl, _, sq_of upd_same⟩, _, rfl, lt, p, _, _, rfl, rfl, upd_same, hp3, ?_, ?_⟩
  · simp
    omega
  refine hD _ _ ⟨done ++ i :: (ns ++ tail), rest, out ++ [(ans.length : Int)] ++ ans, (Sr73.step st x).1, lm', some (.int i), x5, some (.ref ln), some (.ref lr), some (.ref p), ?_, el2, hrest, ?_, ?_, step_good hgood hbx, ?_, hne', nlm', eans2, ?_⟩
  · have : (done ++ i :: (ns ++ tail)).length = done.length + 1 + ns.length + tail.length := by
      simp
      omega
    rw [this]
    rfl
  · exact Ex.mut (Ex.mut e2 nlt) nlt
  · obtain ⟨⟨dx, g1⟩, us, g2, g3⟩ := hsp'
    have z1 : ∀ (o o' : HO), upd (upd H2 lt o) lt o' a = H2 a := fun o o' => by rw [upd_ne hta.symm, upd_ne hta.symm]
    have z2 : ∀ (o o' : HO), upd (upd H2 lt o) lt o' lm' = H2 lm' := fun o o' => by rw [upd_ne hne'.symm, upd_ne hne'.symm]
    exact ⟨⟨dx, by rw [z1]; exact g1⟩, us, by rw [z2]; exact g2, fs_upd upd_same (fs_upd hlt2 g3)⟩
  · rw [upd_same]
    simp
  · simp
    omega
theorem ok_answers (T : Txt K mg) (B : Bs P base) (OA : FnOk P w K mg base CX0 52 T.answer.f T.answer.fd ["spread", "number", "numbers", "row"] (sp_answer T)) :
    FnOk P w K mg base CX0 54 T.answers.f T.answers.fd ["calls"] (sp_answers K) := by
  refine T.answers.F.ok sc_answers (fun vs H Q E h => ?_) (fun cdv Ar outer s0 H vs Q E hr h => ?_)
  · obtain ⟨ac, l, rfl, _⟩ := h
    rfl
  obtain ⟨ac, l, rfl, hl, hask, q⟩ := h
  obtain ⟨cs, el, hcs, h60, eans, hshort⟩ := asked_inv hask
  refine ⟨_, (pss_cons (ps_set (i := 1) sc_answers.nd rfl (Or.inl rfl) (pe_make0 T.Spread.made (ok_Spread_init T) (hr.mono (by decide)) (by rfl) T.Spread.g T.Spread.b .nil pass0))
      (pss_cons (ps_set (i := 2) sc_answers.nd rfl (Or.inl rfl) (pe_lst pa_nil))
      (pss_cons (ps_set (i := 3) sc_answers.nd rfl (Or.inl rfl) pe_int)
      (pss_cons (ps_while PassesOwn.never (pt_cmpR op_lt (pv 3) (pe_callB call_len_seq (by rfl) T.len (by decide +kernel) (pa_cons (pv 0) pa_nil)) (nomark _)) (pss_cons (ps_set (i := 4) sc_answers.nd rfl (Or.inl rfl) (pe_ix ix_list (pv 0) (pv 3) (fun _ _ => rfl)))
      (pss_cons (ps_set (i := 5) sc_answers.nd rfl (Or.inl rfl) (pe_op op_add (pe_op op_add (pv 3) pe_int) (pe_ix ix_tup (pe_glob (by rfl) T.PLAIN_NUMBERS.g T.PLAIN_NUMBERS.r) (pv 4) (fun _ _ => rfl))))
      (pss_cons (ps_set (i := 6) sc_answers.nd rfl (Or.inl rfl) (pe_slice sl_list (pv 0) (po_some (pe_op op_add (pv 3) pe_int)) (po_some (pv 5))))
      (pss_cons (ps_set (i := 7) sc_answers.nd rfl (Or.inl rfl) (pe_lst pa_nil))
      (pss_cons (ps_set (i := 3) sc_answers.nd rfl (Or.inl rfl) (pv 5))
      (pss_cons (ps_if (pt_cmpR op_in_seq (pv 4) (pe_glob (by rfl) T.WITH_A_ROW.g T.WITH_A_ROW.r) (by rfl)) (pss_cons (ps_set (i := 3) sc_answers.nd rfl (Or.inl rfl) (pe_op op_add (pe_op op_add (pv 5) pe_int) (pe_ix ix_list (pv 0) (pv 5) (fun _ _ => rfl))))
      (pss_one (ps_set (i := 7) sc_answers.nd rfl (Or.inl rfl) (pe_slice sl_list (pv 0) (po_some (pe_op op_add (pv 5) pe_int)) (po_some (pv 3)))))) pss_nil)
      (pss_cons (ps_set (i := 8) sc_answers.nd rfl (Or.inl rfl) (pe_df T.answer OA hr (pa_cons (pv 1) (pa_cons (pv 4) (pa_cons (pv 6) (pa_cons (pv 7) pa_nil))))))
      (pss_cons (ps_expr (pe_bm PySem.F.plainAttrs_list PySem.F.slot_list_append PySem.F.type_list_append mt_append (pv 2) (pa_cons (pe_callB call_len_seq (by rfl) T.len (by decide +kernel) (pa_cons (pv 8) pa_nil)) pa_nil)))
      (pss_one (ps_expr (pe_bm PySem.F.plainAttrs_list PySem.F.slot_list_extend PySem.F.type_list_extend mt_extend (pv 2) (pa_cons (pv 8) pa_nil)))))))))))))
      (pss_one (ps_ret (pv 2))))))), ?_⟩
  -- spread = Spread()
  intro a dx na nd ne
  refine ⟨a, dx, rfl, upd_same, fun H1 lm nlm hsp kp => ⟨rfl, ?_⟩⟩
  have e1 : Ex H H1 := fun b o hb => by
    have n1 : b ≠ a := fun z => by rw [z, na] at hb; cases hb
    have n2 : b ≠ dx := fun z => by rw [z, nd] at hb; cases hb
    exact kp b o (by rw [upd_ne n1, upd_ne n2]; exact hb) n1
  have nlm0 : H lm = none := none_upd (none_upd nlm)
  dsimp only
  -- told = []; at = 0
  refine sp_asg (ep_lstI (ns := []) ea_in (by simp)) fun v H2 e2 hv => ?_
  obtain ⟨lt, rfl, nlt, hlt⟩ := hv
  have nlt0 := none_back e1 nlt
  refine sp_asg ep_c fun v H3 e3 hv => ?_
  obtain rfl : v = _ := hv
  dsimp only
  refine while_by (LoopI T H l ac a lt 0) (fun σ _ => match σ with | [_, _, _, some (.int n), _, _, _, _, _] => l.length - n.toNat | _ => 0) ?_ ?_ ?_
  · refine ⟨[], cs, [], none, lm, none, none, none, none, none, rfl, by simpa using el, hcs, (e1.trans e2).trans e3, (hsp.mono e2).mono e3, trivial, e3 _ _ hlt, ?_, nlm0, eans, Nat.zero_le _⟩
    intro z
    obtain ⟨_, us, g, _⟩ := hsp
    rw [← z, nlt] at g
    cases g
  · rintro σ H4 ⟨done, rest, out, st, lm, x4, x5, x6, x7, x8, rfl, el, hrest, e4, hsp, hgood, hlt, hne, nlm, eans, _⟩
    have vC : ∀ {H1 : Hp} {σ : L2.St}, Ex H H1 → σ[0]? = some (some (.ref ac)) → EvP (tVar 0) σ H1 (SL K (l.map V.int)) := fun e h => ep_var h ⟨ac, rfl, ex_l e hl⟩ mo_sl
    refine (et_t (ep_lt (ep_v rfl) (ep_len (K := K) (vC e4 rfl)))) H4 (Ex.refl _) _ fun H5 e5 => ?_
    cases rest with
    | nil =>
      have el' : l = done := by rw [el]; simp [PyFlat.put]
      refine ite_f (decide_eq_false (by rw [List.length_map, el']; omega)) ?_
      refine sp_ret (ep_v rfl) fun v H6 e6 hv => ?_
      obtain rfl : v = _ := hv
      refine q lt H6 ?_
      rw [eans]
      simp only [PyFlat.played, PyFlat.told, List.flatMap_nil, List.append_nil]
      exact (e5.trans e6) _ _ hlt
    | cons c rest =>
      obtain ⟨⟨p, ns, rows, ec, hshape⟩, x, hx, hbx⟩ := hrest _ List.mem_cons_self
      obtain ⟨i, ei, hi17, hplain, hk⟩ := shape_is hshape
      subst ei
      have e45 := e4.trans e5
      -- the call's numbers and its row
      obtain ⟨row, tail, etail, hOk, erow⟩ : ∃ (row tail : List Int), PyFlat.put1 c = (i : Int) :: (ns ++ tail) ∧ OkCall (i : Int) ns row x ∧ ((rowed.any (fun y => y == (i : Int)) = true ∧ tail = (row.length : Int) :: row) ∨ (rowed.any (fun y => y == (i : Int)) = false ∧ row = [] ∧ tail = [])) := by
        subst ec
        cases rows with
        | nil =>
          have hf : rowed.any (fun y => y == (i : Int)) = false := by
            cases z : rowed.any (fun y => y == (i : Int)) with
            | false => rfl
            | true => rw [z, if_pos rfl] at hk; cases hk
          exact ⟨[], [], by simp [PyFlat.put1, PyFlat.putRows], .inr ⟨hf, rfl, hx⟩, .inr ⟨hf, rfl, rfl⟩⟩
        | cons r rs =>
          have ht : rowed.any (fun y => y == (i : Int)) = true := by
            cases z : rowed.any (fun y => y == (i : Int)) with
            | true => rfl
            | false => rw [z, if_neg (by simp)] at hk; cases hk
          rw [ht, if_pos rfl] at hk
          have : rs = [] := List.length_eq_zero_iff.mp (by simpa using hk)
          subst this
          exact ⟨r, (r.length : Int) :: r, by simp [PyFlat.put1, PyFlat.putRows, PyFlat.putRow], .inl ⟨ht, hx⟩, .inl ⟨ht, rfl⟩⟩
      have el2 : l = (done ++ (i : Int) :: (ns ++ tail)) ++ PyFlat.put rest := by
        rw [el, PyFlat.put, etail]
        simp
      have hlen : (done.length : Int) < ((l.map V.int).length : Int) := by
        rw [List.length_map, el2]
        simp
        omega
      refine ite_t (decide_eq_true hlen) ?_
      have back : ∀ {n : Nat} {σ' : L2.St} {H' : Hp}, LoopI T H l ac a lt n σ' H' → done.length < n → LoopI T H l ac a lt 0 σ' H' ∧ (match σ' with | [_, _, _, some (.int n), _, _, _, _, _] => l.length - n.toNat | _ => 0) < l.length - ((done.length : Nat) : Int).toNat := by
        rintro n σ' H' ⟨done', rest', out', st', lm', y4, y5, y6, y7, y8, rfl, z1, z2, z3, z4, z5, z6, z7, z8, z9, hn⟩ hlt'
        refine ⟨⟨done', rest', out', st', lm', y4, y5, y6, y7, y8, rfl, z1, z2, z3, z4, z5, z6, z7, z8, z9, Nat.zero_le _⟩, ?_⟩
        show l.length - ((done'.length : Nat) : Int).toNat < _
        rw [List.length_map] at hlen
        simp only [Int.toNat_natCast]
        omega
      -- number = calls[at]
      have a1 : atI (l.map V.int) (done.length : Int) = some (.int (i : Int)) := by
        have z := at_mid done (i : Int) (ns ++ tail ++ PyFlat.put rest)
        rw [← z]
        congr 2
        rw [el2]
        simp
      refine sp_asg (ep_ixS (K := K) (vC e45 rfl) (ep_v rfl) a1) fun v H6 e6 hv => ?_
      obtain rfl : v = _ := hv
      have e46 := e45.trans e6
      dsimp only
      -- row_at
      have hpl : atI (([1, 3, 1, 4, 2, 0, 0, 0, 0, 0, 1, 0, 0, 2, 2, 5, 0] : List Int).map V.int) (i : Int) = some (.int (ns.length : Int)) := atI_nat (by
        have z := hplain
        unfold plain at z
        rw [List.getElem?_map, z]
        rfl)
      refine sp_asg ((ep_add (ep_add (ep_v rfl) ep_c) (ep_ixT (K := K) (ep_cR (R := Tu K _) fun H => ⟨_, rfl, T.PLAIN_NUMBERS.t H⟩) (ep_v rfl) hpl)).to (y := .int ((done.length + 1 + ns.length : Nat) : Int)) (by push_cast; rfl)) fun v H7 e7 hv => ?_
      obtain rfl : v = _ := hv
      have e47 := e46.trans e7
      dsimp only
      -- numbers
      have cut1 : cutV (l.map V.int) (some ((done.length + 1 : Nat) : Int)) (some ((done.length + 1 + ns.length : Nat) : Int)) = ns.map V.int := by
        have z := cut_mid (done ++ [(i : Int)]) ns (tail ++ PyFlat.put rest)
        rw [List.length_append, List.length_singleton] at z
        rw [← z]
        congr 2
        rw [el2]
        simp
      refine sp_asg (ep_slS (K := K) (ns := ns) (i := ((done.length + 1 : Nat) : Int)) (j := ((done.length + 1 + ns.length : Nat) : Int)) (vC e47 rfl) ((ep_add (ep_v rfl) ep_c).to (by push_cast; rfl)) (ep_v rfl) cut1) fun v H8 e8 hv => ?_
      obtain ⟨ln, rfl, nln, hln⟩ := hv
      have e48 := e47.trans e8
      dsimp only
      refine sp_asg (ep_lstI (ns := []) ea_in (by simp)) fun v H9 e9 hv => ?_
      obtain ⟨lr0, rfl, nlr0, hlr0⟩ := hv
      have e49 := e48.trans e9
      dsimp only
      refine sp_asg (ep_v rfl) fun v H10 e10 hv => ?_
      obtain rfl : v = _ := hv
      have e410 := e49.trans e10
      have e5_10 := ((((e5.trans e6).trans e7).trans e8).trans e9).trans e10
      dsimp only
      -- the row, if there is one
      refine sp_if (et_t (ep_inT (K := K) (ep_v rfl) (ep_cR (R := Tu K _) fun H => ⟨_, rfl, T.WITH_A_ROW.t H⟩) rfl (by decide))) (fun cc H11 e11 => ?_) fun cc H11 e11 => ?_
      · rw [inV_any] at cc
        rcases erow with ⟨_, et⟩ | ⟨hf, _⟩
        · subst et
          have e411 := e410.trans e11
          have a2 : atI (l.map V.int) ((done.length + 1 + ns.length : Nat) : Int) = some (.int (row.length : Int)) := by
            have z := at_mid (done ++ (i : Int) :: ns) (row.length : Int) (row ++ PyFlat.put rest)
            rw [← z]
            congr 2
            · rw [el2]
              simp
            · simp
              omega
          refine sp_asg ((ep_add (ep_add (ep_v rfl) ep_c) (ep_ixS (K := K) (vC e411 rfl) (ep_v rfl) a2)).to (y := .int ((done.length + 1 + ns.length + ((row.length : Int) :: row).length : Nat) : Int)) (by
            rw [List.length_cons]
            push_cast
            congr 1
            omega)) fun v H12 e12 hv => ?_
          obtain rfl : v = _ := hv
          have e412 := e411.trans e12
          dsimp only
          have cut2 : cutV (l.map V.int) (some ((done.length + 1 + ns.length + 1 : Nat) : Int)) (some ((done.length + 1 + ns.length + ((row.length : Int) :: row).length : Nat) : Int)) = row.map V.int := by
            have z := cut_mid (done ++ (i : Int) :: (ns ++ [(row.length : Int)])) row (PyFlat.put rest)
            rw [← z]
            congr 2
            · rw [el2]
              simp
            · simp
              omega
            · simp
              omega
          refine sp_asg (ep_slS (K := K) (ns := row) (i := ((done.length + 1 + ns.length + 1 : Nat) : Int)) (j := ((done.length + 1 + ns.length + ((row.length : Int) :: row).length : Nat) : Int)) (vC e412 rfl) ((ep_add (ep_v rfl) ep_c).to (by push_cast; rfl)) (ep_v rfl) cut2) fun v H13 e13 hv => ?_
          obtain ⟨lr, rfl, nlr, hlr⟩ := hv
          have eAll := ((e5_10.trans e11).trans e12).trans e13
          refine turn_end T (c := c) (st := st) (lm := lm) hshort na nlt0 el2 (fun c hc => hrest c (List.mem_cons_of_mem _ hc)) hx hbx hOk (e412.trans e13) (hsp.mono eAll) hgood (eAll _ _ hlt) hne nlm eans
            ((((e9.trans e10).trans e11).trans e12).trans e13 _ _ hln) hlr fun σ' H' h => ?_
          exact back h (by simp; omega)
        · have cc' : rowed.any (fun y => y == (i : Int)) = true := cc
          rw [hf] at cc'
          cases cc'
      · rw [inV_any] at cc
        rcases erow with ⟨ht, _⟩ | ⟨hf, er, et⟩
        · have cc' : rowed.any (fun y => y == (i : Int)) = false := cc
          rw [ht] at cc'
          cases cc'
        · subst er et
          have eAll := e5_10.trans e11
          refine turn_end T (c := c) (st := st) (lm := lm) (tail := []) (row := []) hshort na nlt0 el2 (fun c hc => hrest c (List.mem_cons_of_mem _ hc)) hx hbx hOk (e410.trans e11) (hsp.mono eAll) hgood (eAll _ _ hlt) hne nlm eans
            ((e9.trans e10).trans e11 _ _ hln) (e10.trans e11 _ _ hlr0) fun σ' H' h => ?_
          exact back h (by simp; omega)
  · rintro σ H' Q1 Q2 h ⟨v, hv, u, hu, p, ys, e1, e2, i, j, e3, e4, k, e5, r⟩
    exact ⟨v, hv, u, hu, p, ys, e1, e2, i, j, e3, e4, k, e5, h _ _ r⟩
end
end Sm


/-! # answer: the call by its number -/
namespace Sm
open PySem PySem.Spec PyProof.Rows L2 Evl
section
variable {P : Program} {w : World} {K : PySem.W.Frag} {mg : Str → Option Value} {base : Heap}
theorem step_minus11 {c : Sr73.Call} (hb : ∀ k, c ≠ .begin_ k) : Sr73.step none c = (none, Sr73.say (-11)) := by
  cases c with
  | begin_ k => exact absurd rfl (hb k)
  | _ => rfl
/-- the calls' defs, each with its promise -/
inductive Tab (T : Txt K mg) : Addr → Sp → Prop
  | t0 : Tab T T.begin.f (spC T ok_begin_)
  | t1 : Tab T T.set_mean.f (spC T ok_set_)
  | t2 : Tab T T.set_row.f (spC T ok_row_)
  | t3 : Tab T T.put.f (spC T ok_put_)
  | t4 : Tab T T.move.f (spC T ok_move_)
  | t5 : Tab T T.tell_means.f (spC T ok_means_)
  | t6 : Tab T T.tell_mean.f (spC T ok_mean_)
  | t7 : Tab T T.tell_fits.f (spC T ok_fits_)
  | t8 : Tab T T.tell_strict.f (spC T ok_strict_)
  | t9 : Tab T T.tell_proof.f (spC T ok_proof_)
  | t10 : Tab T T.tell_angle.f (spC T ok_angle_)
  | t11 : Tab T T.tell_turns.f (spC T ok_turns_)
  | t12 : Tab T T.tell_rank.f (spC T ok_rank_)
  | t13 : Tab T T.tell_most.f (spC T ok_most_)
  | t14 : Tab T T.take.f (spC T ok_take_)
  | t15 : Tab T T.tell_zeros.f (spC T ok_zeros_)
  | t16 : Tab T T.tell_square.f (spC T ok_square_)
theorem tab_keeps (Z : ZerosTrue) (T : Txt K mg) (B : Bs P base) : ∀ f sp, Tab T f sp → Keeps P w K mg base 50 f sp := fun f sp h => by
  cases h with
  | t0 => exact .of T.begin (ok_begin T B) (by decide)
  | t1 => exact .of T.set_mean (ok_set_mean T B) (by decide)
  | t2 => exact .of T.set_row (ok_set_row T B) (by decide)
  | t3 => exact .of T.put (ok_put T B) (by decide)
  | t4 => exact .of T.move (ok_move T B) (by decide)
  | t5 => exact .of T.tell_means (ok_tell_means T B) (by decide)
  | t6 => exact .of T.tell_mean (ok_tell_mean T B) (by decide)
  | t7 => exact .of T.tell_fits (ok_tell_fits T B) (by decide)
  | t8 => exact .of T.tell_strict (ok_tell_strict T B) (by decide)
  | t9 => exact .of T.tell_proof (ok_tell_proof T B) (by decide)
  | t10 => exact .of T.tell_angle (ok_tell_angle T B) (by decide)
  | t11 => exact .of T.tell_turns (ok_tell_turns T B) (by decide)
  | t12 => exact .of T.tell_rank (ok_tell_rank T B) (by decide)
  | t13 => exact .of T.tell_most (ok_tell_most T B) (by decide)
  | t14 => exact .of T.take (ok_take T B) (by decide)
  | t15 => exact .of T.tell_zeros (ok_tell_zeros Z T B) (by decide)
  | t16 => exact .of T.tell_square (ok_tell_square T B) (by decide)
/-- where a call is found in the table: its def, and what that asks -/
theorem tab_find (T : Txt K mg) {p : Int} {ns row : List Int} {c : Sr73.Call} {st : Sr73.State} (h : CallIs p ns row c) (hb : Bnd c) (hs : st = none → p = 0) :
    ∃ f ok, findBy Value.isInt T.CALLS.es p = some (.ref f) ∧ Tab T f (spC T ok) ∧ ok st ns row c := by
  have some_of : p ≠ 0 → ∃ s, st = some s := fun n => by
    cases st with
    | none => exact absurd (hs rfl) n
    | some s => exact ⟨s, rfl⟩
  cases h with
  | c0 k => exact ⟨_, _, T.b0, .t0, k, rfl, rfl⟩
  | c1 i a b => obtain ⟨s, rfl⟩ := some_of (by decide); exact ⟨_, _, T.b1, .t1, s, i, a, b, rfl, rfl, rfl⟩
  | c2 e r => obtain ⟨s, rfl⟩ := some_of (by decide); exact ⟨_, _, T.b2, .t2, s, e, rfl, rfl, rfl⟩
  | c3 a b c d => obtain ⟨s, rfl⟩ := some_of (by decide); exact ⟨_, _, T.b3, .t3, s, a, b, c, d, rfl, rfl, rfl⟩
  | c4 a b => obtain ⟨s, rfl⟩ := some_of (by decide); exact ⟨_, _, T.b4, .t4, s, a, b, rfl, rfl, rfl⟩
  | c5  => obtain ⟨s, rfl⟩ := some_of (by decide); exact ⟨_, _, T.b5, .t5, s, rfl, rfl⟩
  | c6 r => obtain ⟨s, rfl⟩ := some_of (by decide); exact ⟨_, _, T.b6, .t6, s, rfl, rfl, Nat.le_trans (m := 70) hb (by decide)⟩
  | c7  => obtain ⟨s, rfl⟩ := some_of (by decide); exact ⟨_, _, T.b7, .t7, s, rfl, rfl⟩
  | c8  => obtain ⟨s, rfl⟩ := some_of (by decide); exact ⟨_, _, T.b8, .t8, s, rfl, rfl⟩
  | c9  => obtain ⟨s, rfl⟩ := some_of (by decide); exact ⟨_, _, T.b9, .t9, s, rfl, rfl⟩
  | c10 j => obtain ⟨s, rfl⟩ := some_of (by decide); exact ⟨_, _, T.b10, .t10, s, j, rfl, rfl, rfl⟩
  | c11  => obtain ⟨s, rfl⟩ := some_of (by decide); exact ⟨_, _, T.b11, .t11, s, rfl, rfl⟩
  | c12  => obtain ⟨s, rfl⟩ := some_of (by decide); exact ⟨_, _, T.b12, .t12, s, rfl, rfl⟩
  | c13 a b => obtain ⟨s, rfl⟩ := some_of (by decide); exact ⟨_, _, T.b13, .t13, s, a, b, rfl, rfl, rfl⟩
  | c14 a b => obtain ⟨s, rfl⟩ := some_of (by decide); exact ⟨_, _, T.b14, .t14, s, a, b, rfl, rfl, rfl⟩
  | c15 j a b c d => obtain ⟨s, rfl⟩ := some_of (by decide); exact ⟨_, _, T.b15, .t15, s, j, a, b, c, d, rfl, rfl, rfl⟩
  | c16 r => obtain ⟨s, rfl⟩ := some_of (by decide); exact ⟨_, _, T.b16, .t16, s, rfl, rfl, Nat.le_trans (m := 70) hb (by decide)⟩
theorem begin_iff {p : Int} {ns row : List Int} {c : Sr73.Call} (h : CallIs p ns row c) (hp : p ≠ 0) : ∀ k, c ≠ .begin_ k := fun k z => by
  subst z
  cases h
  exact hp rfl
theorem ok_answer (Z : ZerosTrue) (T : Txt K mg) (B : Bs P base) : FnOk P w K mg base CX0 52 T.answer.f T.answer.fd ["spread", "number", "numbers", "row"] (sp_answer T) := by
  refine T.answer.F.ok sc_answer (fun vs H Q E h => ?_) (fun cdv Ar outer s0 H vs Q E hr h => ?_)
  · obtain ⟨a, l, ln, lr, p, ns, row, st, c, rfl, _⟩ := h
    rfl
  obtain ⟨a, l, ln, lr, p, ns, row, st, c, rfl, ho, hn, hw, hg, hOk, hbx, q⟩ := h
  have hc := callIs_of hOk
  have hr : Room 50 _ := hr.mono (by decide)
  have hS : ∀ f sp, Tab T f sp → Keeps P w K mg base 50 f sp := tab_keeps Z T B
  refine ⟨_, (pss_cons (ps_if (PW.pt (pw_and (pt_cmpR op_ne (pv 1) (pe_glob (by rfl) T.BEGIN.g T.BEGIN.r) (nomark _)) (pw_and1 (pt_cmpR op_eq (pe_fld (pv 0) (by rfl)) pe_int (nomark _))))) (pss_one (ps_ret (pe_lst (pa_cons (pe_glob (by rfl) T.NOT_BEGUN.g T.NOT_BEGUN.r) pa_nil)))) pss_nil)
      (pss_one (ps_ret (pe_callE (S := Tab T) hS hr (pe_ix (ix_ki T.CALLS.D) (pe_glob (by rfl) T.CALLS.g T.CALLS.r) (pv 1) (fun _ _ => rfl)) (pa_cons (pv 0) (pa_cons (pv 2) (pa_cons (pv 3) pa_nil))))))), ?_⟩
  obtain ⟨⟨dx, g1⟩, us, g2, g3⟩ := id ho
  have tst : EvTP (tAnd (tTest (tOp rNe (tVar 1) (tC (.int 0)))) (tTest (tOp rEq (tFld K (tVar 0) "k") (tC (.int 0))))) [some (.ref a), some (.int p), some (.ref ln), some (.ref lr)] H (!decide (p = 0) && decide (((kOf st : Nat) : Int) = 0)) :=
    et_and' (et_t (ep_ne (ep_v rfl) ep_c)) fun _ => et_t (ep_eq (ep_fld (K := K) (ep_v rfl) g1 T.Spread.cl T.nK (sF_k _ _)) ep_c)
  refine sp_if tst (fun cc H1 e1 => ?_) fun cc H1 e1 => ?_
  · rw [Bool.and_eq_true] at cc
    have p0 : p ≠ 0 := by simpa using cc.1
    have k0 : kOf st = 0 := by
      have := of_decide_eq_true cc.2
      omega
    have sn : st = none := by
      cases st with
      | none => rfl
      | some s =>
        have := (show Good s from hg).k1
        have : s.k = 0 := k0
        omega
    subst sn
    have es := step_minus11 (begin_iff hc p0)
    refine sp_ret (ep_lstI (ea_i (ep_cR (v := .int (-11)) fun _ => rfl) ea_in) (by simp)) fun v H2 e2 hv => ?_
    obtain ⟨pp, rfl, np, hp⟩ := hv
    exact q pp H2 l (none_back e1 np) (by rw [es]; exact hp) (Else.of (e1.trans e2)) (by rw [es]; exact ho.mono (e1.trans e2)) (.inl rfl)
  · have sn : st = none → p = 0 := fun z => by
      subst z
      have : (!decide (p = 0)) = false := by simpa [kOf] using cc
      simpa using this
    obtain ⟨f, ok, hf, ht, hok⟩ := tab_find T hc hbx sn
    (try unfold tNext)
    dsimp only
    refine (ep_ixK (es := T.CALLS.es) ep_c (ep_v rfl) hf).run fun v H3 e3 hv => ?_
    have e13 := e1.trans e3
    refine ⟨f, _, hv, ht, _, rfl, _, rfl, _, rfl, a, l, ln, lr, ns, row, st, c, rfl, ho.mono e13, e13 _ _ hn, e13 _ _ hw, hg, hok, fun pp H' l' np hp hel hsp hl => ?_⟩
    refine q pp H' l' (none_back e13 np) hp (fun b o hb n1 n2 => hel b o (e13 _ _ hb) n1 n2) hsp ?_
    rcases hl with z | z
    · exact .inl z
    · exact .inr (none_back e13 z)
end
end Sm


namespace Sm
open PySem PySem.Spec PyProof.Rows L2 Evl
def df_mk {K : PySem.W.Frag} {h : Heap} {mg : Str → Option Value} {x : Str} {st : Stmt} {ps : List Str} {f : Addr} {oc kV doc pm cdv ct : Value} {od an : Option Addr} {osl : Array (Option Value)} (X : K.In h) (G : h.Ns mainGlobals mg)
    (a : PySem.W.nsIn K mainGlobals x = some (some (.ref f))) (l : K.lookup f = some ⟨oc, od, .func (PySem.W.fnOf x x (defArgs st) (defBody st) (defScope st) .none kV doc pm an cdv ct), osl⟩)
    (c : PySem.W.codeIn K cdv x = true) (k : PySem.W.keepIn K (.ref f) = true)
    (hb : ∀ (kV doc pm : Value) (an : Option Addr) (cdv ct : Value) (us : List Value), us.length = ps.length → bindArgs (PySem.W.fnOf x x (defArgs st) (defBody st) (defScope st) .none kV doc pm an cdv ct) ⟨us, []⟩ = pure (ps.zip us)) : Df K mg x st ps :=
  ⟨f, _, fun_mk (st := st) l c k, PySem.W.mg_of X G a, (fun_mk (st := st) l c k).binds hb, hb _ _ _ _ _ _⟩
def cnI_mk {K : PySem.W.Frag} {h : Heap} {mg : Str → Option Value} {x : Str} {i : Int} {u : Value} (X : K.In h) (G : h.Ns mainGlobals mg) (a : PySem.W.nsIn K mainGlobals x = some (some u)) (r : RelV (.int i) u) : CnI mg x i := ⟨u, PySem.W.mg_of X G a, r⟩
def cnT_mk {K : PySem.W.Frag} {h : Heap} {mg : Str → Option Value} {x : Str} {xs : List V} {b : Addr} {its : Array Value} {n : Nat} {od : Option Addr} {sl : Array (Option Value)} (X : K.In h) (G : h.Ns mainGlobals mg) (a : PySem.W.nsIn K mainGlobals x = some (some (.ref b)))
    (l : K.lookup b = some ⟨.type "tuple", od, .seq its n, sl⟩) (z : its.size ≤ sizeLine) (v : Vals xs its.toList) : CnT K mg x xs := ⟨b, PySem.W.mg_of X G a, rfl, fun H => .inr ⟨_, its, n, l, rfl, rfl, z, v⟩⟩
def kTb_mk {K : PySem.W.Frag} {h : Heap} {mg : Str → Option Value} {x : Str} {names : List (Int × Str)} {d : Addr} {es : Array DictEntry} {n : Nat} (X : K.In h) (G : h.Ns mainGlobals mg) (a : PySem.W.nsIn K mainGlobals x = some (some (.ref d)))
    (l : K.lookup d = some ⟨.type "dict", none, .dict es n, #[]⟩) (k : ∀ e ∈ es, ∃ k t, e.key = .int k t ∧ e.hash = hashInt k) (lo : (d == sysModules) = false)
    (v : ∀ q ∈ names, ∃ u, findBy Value.isInt es q.1 = some u ∧ PySem.W.nsIn K mainGlobals q.2 = some (some u)) : KTb K mg x names :=
  ⟨d, es, n, PySem.W.mg_of X G a, rfl, ⟨l, k, lo⟩, fun q hq => by
    obtain ⟨u, h1, h2⟩ := v q hq
    rw [h1, PySem.W.mg_of X G h2]⟩
def cla_mk {K : PySem.W.Frag} {h : Heap} {mg : Str → Option Value} {x q : Str} {st : Stmt} {attrs : List Str} {C f : Addr} {oc kV doc pm cdv ct : Value} {od an : Option Addr} {osl : Array (Option Value)} (X : K.In h) (G : h.Ns mainGlobals mg)
    (a : PySem.W.nsIn K mainGlobals x = some (some (.ref C))) (a1 : PySem.W.findIn K (.ref C) "__init__" = some (some (.ref f))) (i1 : PySem.W.isFn K (.ref f) = true)
    (l : K.lookup f = some ⟨oc, od, .func (PySem.W.fnOf "__init__" q (defArgs st) (defBody st) (defScope st) .none kV doc pm an cdv ct), osl⟩) (c : PySem.W.codeIn K cdv q = true) (k : PySem.W.keepIn K (.ref f) = true)
    (pg : PySem.W.plainGet K C Str.empty = true) (hd : PySem.W.hasDictIn K C = true) (po : PySem.W.plainOver K C = true) (sa : PySem.W.findIn K (.ref C) "__setattr__" = some (some (.builtin "object.__setattr__")))
    (mk : PySem.W.makesIn K C = true) (kc : PySem.W.keepIn K (.ref C) = true) (na : ∀ y ∈ attrs, PySem.W.findIn K (.ref C) y = some none)
    (hb : ∀ (kV doc pm : Value) (an : Option Addr) (cdv ct : Value) (us : List Value), us.length = (["self"] : List Str).length → bindArgs (PySem.W.fnOf "__init__" q (defArgs st) (defBody st) (defScope st) .none kV doc pm an cdv ct) ⟨us, []⟩ = pure ((["self"] : List Str).zip us)) : Cla K mg x q st attrs :=
  ⟨C, f, _, PySem.W.mg_of X G a, ⟨mk, a1, i1, kc⟩, ⟨pg, hd, po, sa⟩, fun_mk (st := st) l c k, (fun_mk (st := st) l c k).binds hb, na⟩
end Sm

open PySem PySem.W PyProof.Rows
set_option maxRecDepth 100000 in
set_option maxHeartbeats 16000000 in
theorem PySem.Challenge.cw_spreadmeans_s01_answers_holds : PySem.Challenge.rw_spreadmeans_s01_answers.Holds := by
  w_on; k_headS; (case hw => exact ⟨[.list [.int 5]], by decide +kernel, by decide +kernel⟩)
  k_fillS
  refine Sm.walk_far (r := PySem.Challenge.rw_spreadmeans_s01_answers) (k := 54) (ps := ["calls"]) (sp := fun K => Sm.sp_answers K) (by decide +kernel) (by decide +kernel) rfl rfl ⟨rfl, by decide, by decide⟩ (fun w h Y => PySem.W.kIn_of Y) ?F ?S
  case F =>
    intro w mg fa h Y KX G hmg
    have p_ZERO : Sm.CnT (cw_spreadmeans_s01_answers_holds.heap_1 w.params) mg "ZERO" [.int 0, .int 1] := by
      refine' Sm.cnT_mk KX G ?a1 ?l1 ?z1 ?v1
      (case a1 => k_is); (case l1 => k_is); (case z1 => decide); (case v1 => exact (.cons ⟨_, rfl⟩ (.cons ⟨_, rfl⟩ .nil)))
    have p_ONE : Sm.CnT (cw_spreadmeans_s01_answers_holds.heap_1 w.params) mg "ONE" [.int 1, .int 1] := by
      refine' Sm.cnT_mk KX G ?a2 ?l2 ?z2 ?v2
      (case a2 => k_is); (case l2 => k_is); (case z2 => decide); (case v2 => exact (.cons ⟨_, rfl⟩ (.cons ⟨_, rfl⟩ .nil)))
    have p_TWO : Sm.CnT (cw_spreadmeans_s01_answers_holds.heap_1 w.params) mg "TWO" [.int 2, .int 1] := by
      refine' Sm.cnT_mk KX G ?a3 ?l3 ?z3 ?v3
      (case a3 => k_is); (case l3 => k_is); (case z3 => decide); (case v3 => exact (.cons ⟨_, rfl⟩ (.cons ⟨_, rfl⟩ .nil)))
    have d_shared_part : Sm.Df (cw_spreadmeans_s01_answers_holds.heap_1 w.params) mg "shared_part" Sm.s_shared_part ["a", "b"] := by
      refine' Sm.df_mk KX G ?a4 ?l4 ?c4 ?k4 (fun _ _ _ _ _ _ us hl => match us, hl with | [_, _], _ => rfl)
      (case a4 => k_is); (case l4 => k_is); (case c4 => k_is); (case k4 => k_is)
    have d_fraction : Sm.Df (cw_spreadmeans_s01_answers_holds.heap_1 w.params) mg "fraction" Sm.s_fraction ["upper", "lower"] := by
      refine' Sm.df_mk KX G ?a5 ?l5 ?c5 ?k5 (fun _ _ _ _ _ _ us hl => match us, hl with | [_, _], _ => rfl)
      (case a5 => k_is); (case l5 => k_is); (case c5 => k_is); (case k5 => k_is)
    have d_plus : Sm.Df (cw_spreadmeans_s01_answers_holds.heap_1 w.params) mg "plus" Sm.s_plus ["x", "y"] := by
      refine' Sm.df_mk KX G ?a6 ?l6 ?c6 ?k6 (fun _ _ _ _ _ _ us hl => match us, hl with | [_, _], _ => rfl)
      (case a6 => k_is); (case l6 => k_is); (case c6 => k_is); (case k6 => k_is)
    have d_less : Sm.Df (cw_spreadmeans_s01_answers_holds.heap_1 w.params) mg "less" Sm.s_less ["x", "y"] := by
      refine' Sm.df_mk KX G ?a7 ?l7 ?c7 ?k7 (fun _ _ _ _ _ _ us hl => match us, hl with | [_, _], _ => rfl)
      (case a7 => k_is); (case l7 => k_is); (case c7 => k_is); (case k7 => k_is)
    have d_times : Sm.Df (cw_spreadmeans_s01_answers_holds.heap_1 w.params) mg "times" Sm.s_times ["x", "y"] := by
      refine' Sm.df_mk KX G ?a8 ?l8 ?c8 ?k8 (fun _ _ _ _ _ _ us hl => match us, hl with | [_, _], _ => rfl)
      (case a8 => k_is); (case l8 => k_is); (case c8 => k_is); (case k8 => k_is)
    have d_is_less : Sm.Df (cw_spreadmeans_s01_answers_holds.heap_1 w.params) mg "is_less" Sm.s_is_less ["x", "y"] := by
      refine' Sm.df_mk KX G ?a9 ?l9 ?c9 ?k9 (fun _ _ _ _ _ _ us hl => match us, hl with | [_, _], _ => rfl)
      (case a9 => k_is); (case l9 => k_is); (case c9 => k_is); (case k9 => k_is)
    have d_divided : Sm.Df (cw_spreadmeans_s01_answers_holds.heap_1 w.params) mg "divided" Sm.s_divided ["x", "y"] := by
      refine' Sm.df_mk KX G ?a10 ?l10 ?c10 ?k10 (fun _ _ _ _ _ _ us hl => match us, hl with | [_, _], _ => rfl)
      (case a10 => k_is); (case l10 => k_is); (case c10 => k_is); (case k10 => k_is)
    have d_too_long : Sm.Df (cw_spreadmeans_s01_answers_holds.heap_1 w.params) mg "too_long" Sm.s_too_long ["x"] := by
      refine' Sm.df_mk KX G ?a11 ?l11 ?c11 ?k11 (fun _ _ _ _ _ _ us hl => match us, hl with | [_], _ => rfl)
      (case a11 => k_is); (case l11 => k_is); (case c11 => k_is); (case k11 => k_is)
    have d_power_alone : Sm.Df (cw_spreadmeans_s01_answers_holds.heap_1 w.params) mg "power_alone" Sm.s_power_alone ["power"] := by
      refine' Sm.df_mk KX G ?a12 ?l12 ?c12 ?k12 (fun _ _ _ _ _ _ us hl => match us, hl with | [_], _ => rfl)
      (case a12 => k_is); (case l12 => k_is); (case c12 => k_is); (case k12 => k_is)
    have d_mean_with_power : Sm.Df (cw_spreadmeans_s01_answers_holds.heap_1 w.params) mg "mean_with_power" Sm.s_mean_with_power ["factors", "power", "means"] := by
      refine' Sm.df_mk KX G ?a13 ?l13 ?c13 ?k13 (fun _ _ _ _ _ _ us hl => match us, hl with | [_, _, _], _ => rfl)
      (case a13 => k_is); (case l13 => k_is); (case c13 => k_is); (case k13 => k_is)
    have d_mean_of : Sm.Df (cw_spreadmeans_s01_answers_holds.heap_1 w.params) mg "mean_of" Sm.s_mean_of ["factors", "means"] := by
      refine' Sm.df_mk KX G ?a14 ?l14 ?c14 ?k14 (fun _ _ _ _ _ _ us hl => match us, hl with | [_, _], _ => rfl)
      (case a14 => k_is); (case l14 => k_is); (case c14 => k_is); (case k14 => k_is)
    have d_mean_of_product : Sm.Df (cw_spreadmeans_s01_answers_holds.heap_1 w.params) mg "mean_of_product" Sm.s_mean_of_product ["factors", "other", "means"] := by
      refine' Sm.df_mk KX G ?a15 ?l15 ?c15 ?k15 (fun _ _ _ _ _ _ us hl => match us, hl with | [_, _, _], _ => rfl)
      (case a15 => k_is); (case l15 => k_is); (case c15 => k_is); (case k15 => k_is)
    have d_mean_of_square : Sm.Df (cw_spreadmeans_s01_answers_holds.heap_1 w.params) mg "mean_of_square" Sm.s_mean_of_square ["factors", "means"] := by
      refine' Sm.df_mk KX G ?a16 ?l16 ?c16 ?k16 (fun _ _ _ _ _ _ us hl => match us, hl with | [_, _], _ => rfl)
      (case a16 => k_is); (case l16 => k_is); (case c16 => k_is); (case k16 => k_is)
    have d_value_at : Sm.Df (cw_spreadmeans_s01_answers_holds.heap_1 w.params) mg "value_at" Sm.s_value_at ["factors", "place"] := by
      refine' Sm.df_mk KX G ?a17 ?l17 ?c17 ?k17 (fun _ _ _ _ _ _ us hl => match us, hl with | [_, _], _ => rfl)
      (case a17 => k_is); (case l17 => k_is); (case c17 => k_is); (case k17 => k_is)
    have d_times_power_plus : Sm.Df (cw_spreadmeans_s01_answers_holds.heap_1 w.params) mg "times_power_plus" Sm.s_times_power_plus ["factors", "shift"] := by
      refine' Sm.df_mk KX G ?a18 ?l18 ?c18 ?k18 (fun _ _ _ _ _ _ us hl => match us, hl with | [_, _], _ => rfl)
      (case a18 => k_is); (case l18 => k_is); (case c18 => k_is); (case k18 => k_is)
    have d_less_often : Sm.Df (cw_spreadmeans_s01_answers_holds.heap_1 w.params) mg "less_often" Sm.s_less_often ["factors", "other", "often"] := by
      refine' Sm.df_mk KX G ?a19 ?l19 ?c19 ?k19 (fun _ _ _ _ _ _ us hl => match us, hl with | [_, _, _], _ => rfl)
      (case a19 => k_is); (case l19 => k_is); (case c19 => k_is); (case k19 => k_is)
    have k_Angles : Sm.Cla (cw_spreadmeans_s01_answers_holds.heap_1 w.params) mg "Angles" "Angles.__init__" Sm.i_Angles ["found", "proof"] := by
      refine' Sm.cla_mk KX G ?a_20 ?a1_20 ?i1_20 ?l_20 ?c_20 ?k_20 ?pg_20 ?hd_20 ?po_20 ?sa_20 ?mk_20 ?kc_20 ?na_20 (fun _ _ _ _ _ _ us hl => match us, hl with | [_], _ => rfl)
      (case a_20 => k_is); (case a1_20 => k_is); (case i1_20 => k_is); (case l_20 => k_is); (case c_20 => k_is); (case k_20 => k_is); (case pg_20 => k_is); (case hd_20 => k_is); (case po_20 => k_is); (case sa_20 => k_is); (case mk_20 => k_is); (case kc_20 => k_is)
      intro y hy
      simp only [List.mem_cons, List.not_mem_nil, or_false] at hy
      rcases hy with rfl | rfl <;> k_is
    have d_less_found : Sm.Df (cw_spreadmeans_s01_answers_holds.heap_1 w.params) mg "less_found" Sm.s_less_found ["power", "found", "means"] := by
      refine' Sm.df_mk KX G ?a21 ?l21 ?c21 ?k21 (fun _ _ _ _ _ _ us hl => match us, hl with | [_, _, _], _ => rfl)
      (case a21 => k_is); (case l21 => k_is); (case c21 => k_is); (case k21 => k_is)
    have d_first_power_met : Sm.Df (cw_spreadmeans_s01_answers_holds.heap_1 w.params) mg "first_power_met" Sm.s_first_power_met ["factors", "k", "means"] := by
      refine' Sm.df_mk KX G ?a22 ?l22 ?c22 ?k22 (fun _ _ _ _ _ _ us hl => match us, hl with | [_, _, _], _ => rfl)
      (case a22 => k_is); (case l22 => k_is); (case c22 => k_is); (case k22 => k_is)
    have d_proof_with_power : Sm.Df (cw_spreadmeans_s01_answers_holds.heap_1 w.params) mg "proof_with_power" Sm.s_proof_with_power ["power", "rest", "means"] := by
      refine' Sm.df_mk KX G ?a23 ?l23 ?c23 ?k23 (fun _ _ _ _ _ _ us hl => match us, hl with | [_, _, _], _ => rfl)
      (case a23 => k_is); (case l23 => k_is); (case c23 => k_is); (case k23 => k_is)
    have d_proof_from : Sm.Df (cw_spreadmeans_s01_answers_holds.heap_1 w.params) mg "proof_from" Sm.s_proof_from ["rest", "size", "k", "means"] := by
      refine' Sm.df_mk KX G ?a24 ?l24 ?c24 ?k24 (fun _ _ _ _ _ _ us hl => match us, hl with | [_, _, _, _], _ => rfl)
      (case a24 => k_is); (case l24 => k_is); (case c24 => k_is); (case k24 => k_is)
    have d_at_right_angles : Sm.Df (cw_spreadmeans_s01_answers_holds.heap_1 w.params) mg "at_right_angles" Sm.s_at_right_angles ["k", "means"] := by
      refine' Sm.df_mk KX G ?a25 ?l25 ?c25 ?k25 (fun _ _ _ _ _ _ us hl => match us, hl with | [_, _], _ => rfl)
      (case a25 => k_is); (case l25 => k_is); (case c25 => k_is); (case k25 => k_is)
    have d_fits_at_all : Sm.Df (cw_spreadmeans_s01_answers_holds.heap_1 w.params) mg "fits_at_all" Sm.s_fits_at_all ["angles"] := by
      refine' Sm.df_mk KX G ?a26 ?l26 ?c26 ?k26 (fun _ _ _ _ _ _ us hl => match us, hl with | [_], _ => rfl)
      (case a26 => k_is); (case l26 => k_is); (case c26 => k_is); (case k26 => k_is)
    have d_fits_strictly : Sm.Df (cw_spreadmeans_s01_answers_holds.heap_1 w.params) mg "fits_strictly" Sm.s_fits_strictly ["angles", "k"] := by
      refine' Sm.df_mk KX G ?a27 ?l27 ?c27 ?k27 (fun _ _ _ _ _ _ us hl => match us, hl with | [_, _], _ => rfl)
      (case a27 => k_is); (case l27 => k_is); (case c27 => k_is); (case k27 => k_is)
    have d_all_found_up_to : Sm.Df (cw_spreadmeans_s01_answers_holds.heap_1 w.params) mg "all_found_up_to" Sm.s_all_found_up_to ["angles", "power"] := by
      refine' Sm.df_mk KX G ?a28 ?l28 ?c28 ?k28 (fun _ _ _ _ _ _ us hl => match us, hl with | [_, _], _ => rfl)
      (case a28 => k_is); (case l28 => k_is); (case c28 => k_is); (case k28 => k_is)
    have d_turn : Sm.Df (cw_spreadmeans_s01_answers_holds.heap_1 w.params) mg "turn" Sm.s_turn ["found", "power", "means"] := by
      refine' Sm.df_mk KX G ?a29 ?l29 ?c29 ?k29 (fun _ _ _ _ _ _ us hl => match us, hl with | [_, _, _], _ => rfl)
      (case a29 => k_is); (case l29 => k_is); (case c29 => k_is); (case k29 => k_is)
    have d_most_at : Sm.Df (cw_spreadmeans_s01_answers_holds.heap_1 w.params) mg "most_at" Sm.s_most_at ["found", "place"] := by
      refine' Sm.df_mk KX G ?a30 ?l30 ?c30 ?k30 (fun _ _ _ _ _ _ us hl => match us, hl with | [_, _], _ => rfl)
      (case a30 => k_is); (case l30 => k_is); (case c30 => k_is); (case k30 => k_is)
    have d_zeros_above : Sm.Df (cw_spreadmeans_s01_answers_holds.heap_1 w.params) mg "zeros_above" Sm.s_zeros_above ["found", "power", "place"] := by
      refine' Sm.df_mk KX G ?a31 ?l31 ?c31 ?k31 (fun _ _ _ _ _ _ us hl => match us, hl with | [_, _, _], _ => rfl)
      (case a31 => k_is); (case l31 => k_is); (case c31 => k_is); (case k31 => k_is)
    have k_Spread : Sm.Cla (cw_spreadmeans_s01_answers_holds.heap_1 w.params) mg "Spread" "Spread.__init__" Sm.i_Spread ["k", "means"] := by
      refine' Sm.cla_mk KX G ?a_32 ?a1_32 ?i1_32 ?l_32 ?c_32 ?k_32 ?pg_32 ?hd_32 ?po_32 ?sa_32 ?mk_32 ?kc_32 ?na_32 (fun _ _ _ _ _ _ us hl => match us, hl with | [_], _ => rfl)
      (case a_32 => k_is); (case a1_32 => k_is); (case i1_32 => k_is); (case l_32 => k_is); (case c_32 => k_is); (case k_32 => k_is); (case pg_32 => k_is); (case hd_32 => k_is); (case po_32 => k_is); (case sa_32 => k_is); (case mk_32 => k_is); (case kc_32 => k_is)
      intro y hy
      simp only [List.mem_cons, List.not_mem_nil, or_false] at hy
      rcases hy with rfl | rfl <;> k_is
    have d_first_means : Sm.Df (cw_spreadmeans_s01_answers_holds.heap_1 w.params) mg "first_means" Sm.s_first_means ["k"] := by
      refine' Sm.df_mk KX G ?a33 ?l33 ?c33 ?k33 (fun _ _ _ _ _ _ us hl => match us, hl with | [_], _ => rfl)
      (case a33 => k_is); (case l33 => k_is); (case c33 => k_is); (case k33 => k_is)
    have d_with_point : Sm.Df (cw_spreadmeans_s01_answers_holds.heap_1 w.params) mg "with_point" Sm.s_with_point ["means", "place", "weight"] := by
      refine' Sm.df_mk KX G ?a34 ?l34 ?c34 ?k34 (fun _ _ _ _ _ _ us hl => match us, hl with | [_, _, _], _ => rfl)
      (case a34 => k_is); (case l34 => k_is); (case c34 => k_is); (case k34 => k_is)
    have d_moved : Sm.Df (cw_spreadmeans_s01_answers_holds.heap_1 w.params) mg "moved" Sm.s_moved ["means", "step"] := by
      refine' Sm.df_mk KX G ?a35 ?l35 ?c35 ?k35 (fun _ _ _ _ _ _ us hl => match us, hl with | [_, _], _ => rfl)
      (case a35 => k_is); (case l35 => k_is); (case c35 => k_is); (case k35 => k_is)
    have i_NO_SUCH_POWER : Sm.CnI mg "NO_SUCH_POWER" (-2) := by
      refine' Sm.cnI_mk KX G ?a36 ?r36
      (case a36 => k_is); (case r36 => exact ⟨_, rfl⟩)
    have i_NOT_BEGUN : Sm.CnI mg "NOT_BEGUN" (-11) := by
      refine' Sm.cnI_mk KX G ?a37 ?r37
      (case a37 => k_is); (case r37 => exact ⟨_, rfl⟩)
    have i_NOT_TAKEN : Sm.CnI mg "NOT_TAKEN" (-22) := by
      refine' Sm.cnI_mk KX G ?a38 ?r38
      (case a38 => k_is); (case r38 => exact ⟨_, rfl⟩)
    have i_NOT_TOLD : Sm.CnI mg "NOT_TOLD" (-33) := by
      refine' Sm.cnI_mk KX G ?a39 ?r39
      (case a39 => k_is); (case r39 => exact ⟨_, rfl⟩)
    have i_TOO_LONG : Sm.CnI mg "TOO_LONG" (-75) := by
      refine' Sm.cnI_mk KX G ?a40 ?r40
      (case a40 => k_is); (case r40 => exact ⟨_, rfl⟩)
    have i_BEGIN : Sm.CnI mg "BEGIN" (0) := by
      refine' Sm.cnI_mk KX G ?a41 ?r41
      (case a41 => k_is); (case r41 => exact ⟨_, rfl⟩)
    have d_is_small_fraction : Sm.Df (cw_spreadmeans_s01_answers_holds.heap_1 w.params) mg "is_small_fraction" Sm.s_is_small_fraction ["upper", "lower"] := by
      refine' Sm.df_mk KX G ?a42 ?l42 ?c42 ?k42 (fun _ _ _ _ _ _ us hl => match us, hl with | [_, _], _ => rfl)
      (case a42 => k_is); (case l42 => k_is); (case c42 => k_is); (case k42 => k_is)
    have d_is_small_polynomial : Sm.Df (cw_spreadmeans_s01_answers_holds.heap_1 w.params) mg "is_small_polynomial" Sm.s_is_small_polynomial ["row", "longest"] := by
      refine' Sm.df_mk KX G ?a43 ?l43 ?c43 ?k43 (fun _ _ _ _ _ _ us hl => match us, hl with | [_, _], _ => rfl)
      (case a43 => k_is); (case l43 => k_is); (case c43 => k_is); (case k43 => k_is)
    have d_whole_factors : Sm.Df (cw_spreadmeans_s01_answers_holds.heap_1 w.params) mg "whole_factors" Sm.s_whole_factors ["row"] := by
      refine' Sm.df_mk KX G ?a44 ?l44 ?c44 ?k44 (fun _ _ _ _ _ _ us hl => match us, hl with | [_], _ => rfl)
      (case a44 => k_is); (case l44 => k_is); (case c44 => k_is); (case k44 => k_is)
    have d_with_fractions : Sm.Df (cw_spreadmeans_s01_answers_holds.heap_1 w.params) mg "with_fractions" Sm.s_with_fractions ["first", "fractions"] := by
      refine' Sm.df_mk KX G ?a45 ?l45 ?c45 ?k45 (fun _ _ _ _ _ _ us hl => match us, hl with | [_, _], _ => rfl)
      (case a45 => k_is); (case l45 => k_is); (case c45 => k_is); (case k45 => k_is)
    have d_keep_unless_long : Sm.Df (cw_spreadmeans_s01_answers_holds.heap_1 w.params) mg "keep_unless_long" Sm.s_keep_unless_long ["spread", "changed"] := by
      refine' Sm.df_mk KX G ?a46 ?l46 ?c46 ?k46 (fun _ _ _ _ _ _ us hl => match us, hl with | [_, _], _ => rfl)
      (case a46 => k_is); (case l46 => k_is); (case c46 => k_is); (case k46 => k_is)
    have d_angles_of : Sm.Df (cw_spreadmeans_s01_answers_holds.heap_1 w.params) mg "angles_of" Sm.s_angles_of ["spread"] := by
      refine' Sm.df_mk KX G ?a47 ?l47 ?c47 ?k47 (fun _ _ _ _ _ _ us hl => match us, hl with | [_], _ => rfl)
      (case a47 => k_is); (case l47 => k_is); (case c47 => k_is); (case k47 => k_is)
    have d_begin : Sm.Df (cw_spreadmeans_s01_answers_holds.heap_1 w.params) mg "begin" Sm.s_begin ["spread", "numbers", "row"] := by
      refine' Sm.df_mk KX G ?a48 ?l48 ?c48 ?k48 (fun _ _ _ _ _ _ us hl => match us, hl with | [_, _, _], _ => rfl)
      (case a48 => k_is); (case l48 => k_is); (case c48 => k_is); (case k48 => k_is)
    have d_set_mean : Sm.Df (cw_spreadmeans_s01_answers_holds.heap_1 w.params) mg "set_mean" Sm.s_set_mean ["spread", "numbers", "row"] := by
      refine' Sm.df_mk KX G ?a49 ?l49 ?c49 ?k49 (fun _ _ _ _ _ _ us hl => match us, hl with | [_, _, _], _ => rfl)
      (case a49 => k_is); (case l49 => k_is); (case c49 => k_is); (case k49 => k_is)
    have d_set_row : Sm.Df (cw_spreadmeans_s01_answers_holds.heap_1 w.params) mg "set_row" Sm.s_set_row ["spread", "numbers", "row"] := by
      refine' Sm.df_mk KX G ?a50 ?l50 ?c50 ?k50 (fun _ _ _ _ _ _ us hl => match us, hl with | [_, _, _], _ => rfl)
      (case a50 => k_is); (case l50 => k_is); (case c50 => k_is); (case k50 => k_is)
    have d_put : Sm.Df (cw_spreadmeans_s01_answers_holds.heap_1 w.params) mg "put" Sm.s_put ["spread", "numbers", "row"] := by
      refine' Sm.df_mk KX G ?a51 ?l51 ?c51 ?k51 (fun _ _ _ _ _ _ us hl => match us, hl with | [_, _, _], _ => rfl)
      (case a51 => k_is); (case l51 => k_is); (case c51 => k_is); (case k51 => k_is)
    have d_move : Sm.Df (cw_spreadmeans_s01_answers_holds.heap_1 w.params) mg "move" Sm.s_move ["spread", "numbers", "row"] := by
      refine' Sm.df_mk KX G ?a52 ?l52 ?c52 ?k52 (fun _ _ _ _ _ _ us hl => match us, hl with | [_, _, _], _ => rfl)
      (case a52 => k_is); (case l52 => k_is); (case c52 => k_is); (case k52 => k_is)
    have d_tell_means : Sm.Df (cw_spreadmeans_s01_answers_holds.heap_1 w.params) mg "tell_means" Sm.s_tell_means ["spread", "numbers", "row"] := by
      refine' Sm.df_mk KX G ?a53 ?l53 ?c53 ?k53 (fun _ _ _ _ _ _ us hl => match us, hl with | [_, _, _], _ => rfl)
      (case a53 => k_is); (case l53 => k_is); (case c53 => k_is); (case k53 => k_is)
    have d_tell_mean : Sm.Df (cw_spreadmeans_s01_answers_holds.heap_1 w.params) mg "tell_mean" Sm.s_tell_mean ["spread", "numbers", "row"] := by
      refine' Sm.df_mk KX G ?a54 ?l54 ?c54 ?k54 (fun _ _ _ _ _ _ us hl => match us, hl with | [_, _, _], _ => rfl)
      (case a54 => k_is); (case l54 => k_is); (case c54 => k_is); (case k54 => k_is)
    have d_tell_fits : Sm.Df (cw_spreadmeans_s01_answers_holds.heap_1 w.params) mg "tell_fits" Sm.s_tell_fits ["spread", "numbers", "row"] := by
      refine' Sm.df_mk KX G ?a55 ?l55 ?c55 ?k55 (fun _ _ _ _ _ _ us hl => match us, hl with | [_, _, _], _ => rfl)
      (case a55 => k_is); (case l55 => k_is); (case c55 => k_is); (case k55 => k_is)
    have d_tell_strict : Sm.Df (cw_spreadmeans_s01_answers_holds.heap_1 w.params) mg "tell_strict" Sm.s_tell_strict ["spread", "numbers", "row"] := by
      refine' Sm.df_mk KX G ?a56 ?l56 ?c56 ?k56 (fun _ _ _ _ _ _ us hl => match us, hl with | [_, _, _], _ => rfl)
      (case a56 => k_is); (case l56 => k_is); (case c56 => k_is); (case k56 => k_is)
    have d_tell_proof : Sm.Df (cw_spreadmeans_s01_answers_holds.heap_1 w.params) mg "tell_proof" Sm.s_tell_proof ["spread", "numbers", "row"] := by
      refine' Sm.df_mk KX G ?a57 ?l57 ?c57 ?k57 (fun _ _ _ _ _ _ us hl => match us, hl with | [_, _, _], _ => rfl)
      (case a57 => k_is); (case l57 => k_is); (case c57 => k_is); (case k57 => k_is)
    have d_tell_angle : Sm.Df (cw_spreadmeans_s01_answers_holds.heap_1 w.params) mg "tell_angle" Sm.s_tell_angle ["spread", "numbers", "row"] := by
      refine' Sm.df_mk KX G ?a58 ?l58 ?c58 ?k58 (fun _ _ _ _ _ _ us hl => match us, hl with | [_, _, _], _ => rfl)
      (case a58 => k_is); (case l58 => k_is); (case c58 => k_is); (case k58 => k_is)
    have d_tell_turns : Sm.Df (cw_spreadmeans_s01_answers_holds.heap_1 w.params) mg "tell_turns" Sm.s_tell_turns ["spread", "numbers", "row"] := by
      refine' Sm.df_mk KX G ?a59 ?l59 ?c59 ?k59 (fun _ _ _ _ _ _ us hl => match us, hl with | [_, _, _], _ => rfl)
      (case a59 => k_is); (case l59 => k_is); (case c59 => k_is); (case k59 => k_is)
    have d_tell_rank : Sm.Df (cw_spreadmeans_s01_answers_holds.heap_1 w.params) mg "tell_rank" Sm.s_tell_rank ["spread", "numbers", "row"] := by
      refine' Sm.df_mk KX G ?a60 ?l60 ?c60 ?k60 (fun _ _ _ _ _ _ us hl => match us, hl with | [_, _, _], _ => rfl)
      (case a60 => k_is); (case l60 => k_is); (case c60 => k_is); (case k60 => k_is)
    have d_tell_most : Sm.Df (cw_spreadmeans_s01_answers_holds.heap_1 w.params) mg "tell_most" Sm.s_tell_most ["spread", "numbers", "row"] := by
      refine' Sm.df_mk KX G ?a61 ?l61 ?c61 ?k61 (fun _ _ _ _ _ _ us hl => match us, hl with | [_, _, _], _ => rfl)
      (case a61 => k_is); (case l61 => k_is); (case c61 => k_is); (case k61 => k_is)
    have d_take : Sm.Df (cw_spreadmeans_s01_answers_holds.heap_1 w.params) mg "take" Sm.s_take ["spread", "numbers", "row"] := by
      refine' Sm.df_mk KX G ?a62 ?l62 ?c62 ?k62 (fun _ _ _ _ _ _ us hl => match us, hl with | [_, _, _], _ => rfl)
      (case a62 => k_is); (case l62 => k_is); (case c62 => k_is); (case k62 => k_is)
    have d_tell_zeros : Sm.Df (cw_spreadmeans_s01_answers_holds.heap_1 w.params) mg "tell_zeros" Sm.s_tell_zeros ["spread", "numbers", "row"] := by
      refine' Sm.df_mk KX G ?a63 ?l63 ?c63 ?k63 (fun _ _ _ _ _ _ us hl => match us, hl with | [_, _, _], _ => rfl)
      (case a63 => k_is); (case l63 => k_is); (case c63 => k_is); (case k63 => k_is)
    have d_tell_square : Sm.Df (cw_spreadmeans_s01_answers_holds.heap_1 w.params) mg "tell_square" Sm.s_tell_square ["spread", "numbers", "row"] := by
      refine' Sm.df_mk KX G ?a64 ?l64 ?c64 ?k64 (fun _ _ _ _ _ _ us hl => match us, hl with | [_, _, _], _ => rfl)
      (case a64 => k_is); (case l64 => k_is); (case c64 => k_is); (case k64 => k_is)
    have t_CALLS : Sm.KTb (cw_spreadmeans_s01_answers_holds.heap_1 w.params) mg "CALLS" Sm.tab_CALLS := by
      refine' Sm.kTb_mk KX G ?a65 ?l65 ?k65 ?o65 ?v65
      (case a65 => k_is); (case l65 => k_is); (case o65 => rfl)
      · intro e he
        simp at he
        rcases he with rfl | rfl | rfl | rfl | rfl | rfl | rfl | rfl | rfl | rfl | rfl | rfl | rfl | rfl | rfl | rfl | rfl <;> exact ⟨_, _, rfl, rfl⟩
      · intro q hq
        unfold Sm.tab_CALLS at hq
        simp only [List.mem_cons, List.not_mem_nil, or_false] at hq
        rcases hq with rfl | rfl | rfl | rfl | rfl | rfl | rfl | rfl | rfl | rfl | rfl | rfl | rfl | rfl | rfl | rfl | rfl <;> (refine ⟨_, rfl, ?_⟩; k_is)
    have d_answer : Sm.Df (cw_spreadmeans_s01_answers_holds.heap_1 w.params) mg "answer" Sm.s_answer ["spread", "number", "numbers", "row"] := by
      refine' Sm.df_mk KX G ?a66 ?l66 ?c66 ?k66 (fun _ _ _ _ _ _ us hl => match us, hl with | [_, _, _, _], _ => rfl)
      (case a66 => k_is); (case l66 => k_is); (case c66 => k_is); (case k66 => k_is)
    have p_PLAIN_NUMBERS : Sm.CnT (cw_spreadmeans_s01_answers_holds.heap_1 w.params) mg "PLAIN_NUMBERS" (([1, 3, 1, 4, 2, 0, 0, 0, 0, 0, 1, 0, 0, 2, 2, 5, 0] : List Int).map L2.V.int) := by
      refine' Sm.cnT_mk KX G ?a67 ?l67 ?z67 ?v67
      (case a67 => k_is); (case l67 => k_is); (case z67 => decide); (case v67 => exact (.cons ⟨_, rfl⟩ (.cons ⟨_, rfl⟩ (.cons ⟨_, rfl⟩ (.cons ⟨_, rfl⟩ (.cons ⟨_, rfl⟩ (.cons ⟨_, rfl⟩ (.cons ⟨_, rfl⟩ (.cons ⟨_, rfl⟩ (.cons ⟨_, rfl⟩ (.cons ⟨_, rfl⟩ (.cons ⟨_, rfl⟩ (.cons ⟨_, rfl⟩ (.cons ⟨_, rfl⟩ (.cons ⟨_, rfl⟩ (.cons ⟨_, rfl⟩ (.cons ⟨_, rfl⟩ (.cons ⟨_, rfl⟩ .nil))))))))))))))))))
    have p_WITH_A_ROW : Sm.CnT (cw_spreadmeans_s01_answers_holds.heap_1 w.params) mg "WITH_A_ROW" (([2, 6, 16] : List Int).map L2.V.int) := by
      refine' Sm.cnT_mk KX G ?a68 ?l68 ?z68 ?v68
      (case a68 => k_is); (case l68 => k_is); (case z68 => decide); (case v68 => exact (.cons ⟨_, rfl⟩ (.cons ⟨_, rfl⟩ (.cons ⟨_, rfl⟩ .nil))))
    have d_answers : Sm.Df (cw_spreadmeans_s01_answers_holds.heap_1 w.params) mg "answers" Sm.s_answers ["calls"] := by
      refine' Sm.df_mk KX G ?a69 ?l69 ?c69 ?k69 (fun _ _ _ _ _ _ us hl => match us, hl with | [_], _ => rfl)
      (case a69 => k_is); (case l69 => k_is); (case c69 => k_is); (case k69 => k_is)
    have g_abs : mg "abs" = none := PySem.W.mg_none_of KX G (by k_is)
    have g_len : mg "len" = none := PySem.W.mg_none_of KX G (by k_is)
    have g_range : mg "range" = none := PySem.W.mg_none_of KX G (by k_is)
    have g_list : mg "list" = none := PySem.W.mg_none_of KX G (by k_is)
    have g_all : mg "all" = none := PySem.W.mg_none_of KX G (by k_is)
    have g_reversed : mg "reversed" = none := PySem.W.mg_none_of KX G (by k_is)
    have T : Sm.Txt (cw_spreadmeans_s01_answers_holds.heap_1 w.params) mg := { ZERO := p_ZERO, ONE := p_ONE, TWO := p_TWO, shared_part := d_shared_part, fraction := d_fraction, plus := d_plus, less := d_less, times := d_times, is_less := d_is_less, divided := d_divided, too_long := d_too_long, power_alone := d_power_alone, mean_with_power := d_mean_with_power, mean_of := d_mean_of, mean_of_product := d_mean_of_product, mean_of_square := d_mean_of_square, value_at := d_value_at, times_power_plus := d_times_power_plus, less_often := d_less_often, Angles := k_Angles, less_found := d_less_found, first_power_met := d_first_power_met, proof_with_power := d_proof_with_power, proof_from := d_proof_from, at_right_angles := d_at_right_angles, fits_at_all := d_fits_at_all, fits_strictly := d_fits_strictly, all_found_up_to := d_all_found_up_to, turn := d_turn, most_at := d_most_at, zeros_above := d_zeros_above, Spread := k_Spread, first_means := d_first_means, with_point := d_with_point, moved := d_moved, NO_SUCH_POWER := i_NO_SUCH_POWER, NOT_BEGUN := i_NOT_BEGUN, NOT_TAKEN := i_NOT_TAKEN, NOT_TOLD := i_NOT_TOLD, TOO_LONG := i_TOO_LONG, BEGIN := i_BEGIN, is_small_fraction := d_is_small_fraction, is_small_polynomial := d_is_small_polynomial, whole_factors := d_whole_factors, with_fractions := d_with_fractions, keep_unless_long := d_keep_unless_long, angles_of := d_angles_of, begin := d_begin, set_mean := d_set_mean, set_row := d_set_row, put := d_put, move := d_move, tell_means := d_tell_means, tell_mean := d_tell_mean, tell_fits := d_tell_fits, tell_strict := d_tell_strict, tell_proof := d_tell_proof, tell_angle := d_tell_angle, tell_turns := d_tell_turns, tell_rank := d_tell_rank, tell_most := d_tell_most, take := d_take, tell_zeros := d_tell_zeros, tell_square := d_tell_square, CALLS := t_CALLS, answer := d_answer, PLAIN_NUMBERS := p_PLAIN_NUMBERS, WITH_A_ROW := p_WITH_A_ROW, answers := d_answers, abs := g_abs, len := g_len, range := g_range, list := g_list, all := g_all, reversed := g_reversed }
    have efa : fa = T.answers.f := Value.ref.inj (Option.some.inj (hmg.symm.trans T.answers.g))
    subst efa
    exact ⟨T.answers.fd, fun s us hu => Sm.bindsTo_of T.answers us hu, fun base kin gl seer => Sm.ok_answers T ⟨seer, rfl⟩ (Sm.ok_answer Sm.zeros_true T ⟨seer, rfl⟩)⟩
  case S =>
    intro K H xs a hO hwi hask hx
    cases hx with
    | cons h1 h2 =>
      cases h2
      cases h1 with
      | lst hs ha =>
        have e := L2.ints_dw a.1 _ ha
        subst e
        exact ⟨_, a.1, rfl, hs, hask, fun H' p hp => .lst (L2.SqL.of hp) (L2.dw_ints _)⟩

